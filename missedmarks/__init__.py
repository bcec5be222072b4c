"""Compacted logs and readers that lag: what can be missed, and what must be done so that nothing is."""

"""[2] for any calls: lists for tuples, names, arguments left out and left alone, told lists that are the caller's."""

import copy
import inspect

from tests.samples import listed, tupled


class Forms:
    """Tests of `calls`, pairs of a function and its arguments by name, and of `kinds`, what some functions return."""

    calls, kinds = [], {}

    def each(self):
        for function, told in self.calls:
            with self.subTest(function=function.__name__, told=told):
                yield function, told, function(*told.values())

    def unchanged(self, function, told, wanted, by_name):
        kept = copy.deepcopy(told)
        self.assertEqual(function(**told) if by_name else function(*told.values()), wanted)
        self.assertEqual(told, kept)

    def test_by_position_and_by_name(self):
        for function, told, wanted in self.each():
            self.assertEqual(list(told), list(inspect.signature(function).parameters)[:len(told)])
            self.unchanged(function, told, wanted, False)
            self.unchanged(function, dict(reversed(told.items())), wanted, True)

    def test_lists_for_tuples(self):
        for function, told, wanted in self.each():
            for same in (listed, tupled, list):
                other = {
                    name: same(value) if isinstance(value, (list, tuple)) and name != "thing" else value
                    for name, value in told.items()
                }
                self.unchanged(function, other, wanted, False)
                self.unchanged(function, other, wanted, True)

    def test_a_thing_that_is_a_list_is_another_thing(self):
        for function, told, wanted in self.each():
            if wanted is True and "thing" in told:
                for thing in (listed(told["thing"]), list(told["thing"]), tuple(list(row) for row in told["thing"])):
                    if thing != told["thing"]:
                        self.unchanged(function, {**told, "thing": thing}, False, True)

    def test_arguments_left_out(self):
        for function, told, wanted in self.each():
            parameters = inspect.signature(function).parameters
            left = {name: told[name] for name in told if told[name] != parameters[name].default}
            self.unchanged(function, left, wanted, True)

    def test_again_and_with_the_told_list_changed(self):
        for function, told, wanted in self.each():
            kept = copy.deepcopy(wanted)
            again = function(*told.values())
            self.assertEqual(again, kept)
            if isinstance(again, list):
                self.assertIsNot(again, wanted)
                for row in [row for row in again if isinstance(row, list)]:
                    row.append(None)
                again.append(None)
                again.reverse()
                self.assertEqual(wanted, kept)
                self.assertEqual(function(*told.values()), kept)

    def test_kinds(self):
        for function, told, _ in self.each():
            wanted = function(**{name: listed(told[name]) if name != "thing" else told[name] for name in told})
            if function in self.kinds and wanted is not None:
                self.assertIs(wanted.__class__, self.kinds[function])
            if isinstance(wanted, (list, tuple)):
                self.assert_plain(wanted, function in self.with_lists)

    # Functions that return lists of lists.
    with_lists = ()

    def assert_plain(self, told, with_lists):
        """Below the outermost list all is tuples, numbers and strings."""
        for row in told:
            if isinstance(row, list):
                self.assertTrue(with_lists)
            if isinstance(row, (list, tuple)):
                self.assert_plain(row, False)

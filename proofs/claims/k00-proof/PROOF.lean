import PyProof.Rows.All
import Wide.All
import OpenK.AllK
import Wide.FinOn
import HandS.ForMost
import HandS.Flow
import HandS.Style
import HandS.IsInst
import HandS.Zip
import HandS.Walk
import HandS.TupAny
import HandS.Wide
import HandS.SetBool
import HandS.Strs
import HandS.SortInts
import HandS.More
import KE.GoesEnum
import HandS.SetFor
import HandS.List
import PyProof.Rows.MatchSeqLen
import PySem.Challenge.RW_missedmarks_k00_events_and_timetables_or
set_option Elab.async false
set_option linter.all false
set_option maxRecDepth 100000
set_option maxHeartbeats 2000000
set_option Elab.async false
set_option linter.all false
set_option maxRecDepth 100000
/-! Steps that read a term of the hand layer from the left, one construct at a time. -/
namespace WK
open PySem L2
section
variable {K : PySem.W.Frag} {σ : L2.St} {H : Hp} {Q : VK} {D : Ends} {ta tb tc te : TE} {tt tu : TT} {x y v : V} {r : R2}
theorem w_var {i : Nat} (h : σ[i]? = some (some v)) (k : Q v H) : tVar i σ H Q := ⟨v, h, k⟩
theorem w_c (k : Q v H) : tC v σ H Q := k
theorem w_op (k : ta σ H fun x H1 => tb σ H1 fun y H2 => r x y H2 Q) : tOp r ta tb σ H Q := k
theorem w_un {r : V → Hp → VK → Prop} (k : ta σ H fun x H1 => r x H1 Q) : tUn r ta σ H Q := k
theorem w_I0 {g : Int → Int → V} {i j : Int} (k : Q (g i j) H) : rI0 g (.int i) (.int j) H Q := ⟨i, j, rfl, rfl, k⟩
theorem w_I {C : Int → Int → Prop} {g : Int → Int → V} {i j : Int} (c : C i j) (k : Q (g i j) H) : rI C g (.int i) (.int j) H Q := ⟨i, j, rfl, rfl, c, k⟩
theorem w_U {g : Int → V} {i : Int} (k : Q (g i) H) : rU g (.int i) H Q := ⟨i, rfl, k⟩
theorem w_eqI {i j : Int} (k : Q (.bl (decide (i = j))) H) : rEq (.int i) (.int j) H Q := ⟨rfl, by
  have e : decide (V.int i = V.int j) = decide (i = j) := by
    by_cases h : i = j
    · subst h; simp
    · rw [decide_eq_false h, decide_eq_false fun q => h (V.int.inj q)]
  rw [e]; exact k⟩
theorem w_neI {i j : Int} (k : Q (.bl (!decide (i = j))) H) : rNe (.int i) (.int j) H Q := ⟨rfl, by
  have e : decide (V.int i = V.int j) = decide (i = j) := by
    by_cases h : i = j
    · subst h; simp
    · rw [decide_eq_false h, decide_eq_false fun q => h (V.int.inj q)]
  rw [e]; exact k⟩
theorem w_eqS {i j : Str} (k : Q (.bl (decide (i = j))) H) : rEq (.str i) (.str j) H Q := ⟨rfl, by
  have e : decide (V.str i = V.str j) = decide (i = j) := by
    by_cases h : i = j
    · subst h; simp
    · rw [decide_eq_false h, decide_eq_false fun q => h (V.str.inj q)]
  rw [e]; exact k⟩
theorem w_neS {i j : Str} (k : Q (.bl (!decide (i = j))) H) : rNe (.str i) (.str j) H Q := ⟨rfl, by
  have e : decide (V.str i = V.str j) = decide (i = j) := by
    by_cases h : i = j
    · subst h; simp
    · rw [decide_eq_false h, decide_eq_false fun q => h (V.str.inj q)]
  rw [e]; exact k⟩
theorem w_eqB {i j : Bool} (k : Q (.bl (i == j)) H) : rEq (.bl i) (.bl j) H Q := ⟨rfl, by
  have e : decide (V.bl i = V.bl j) = (i == j) := by cases i <;> cases j <;> rfl
  rw [e]; exact k⟩
theorem w_neB {i j : Bool} (k : Q (.bl (!(i == j))) H) : rNe (.bl i) (.bl j) H Q := ⟨rfl, by
  have e : decide (V.bl i = V.bl j) = (i == j) := by cases i <;> cases j <;> rfl
  rw [e]; exact k⟩
/-! statements -/
theorem w_seq {t u : TS} (k : t { D with nx := u D } σ H) : tSeq t u D σ H := k
theorem w_next (k : D.nx σ H) : tNext D σ H := k
theorem w_asg {g : TG} (k : te σ H fun x H1 => g x σ H1 D.nx) : tAsg te g D σ H := k
theorem w_name {i : Nat} {R : L2.St → Hp → Prop} (k : R (σ.set i (some v)) H) : gName i v σ H R := k
theorem w_gsub {to ti : TE} {t : TSet} {R : L2.St → Hp → Prop} (k : to σ H fun o H1 => ti σ H1 fun i H2 => t o i v H2 fun H3 => R σ H3) : gSub to ti t v σ H R := k
theorem w_drop (k : te σ H fun _ H1 => D.nx σ H1) : tDrop te D σ H := k
theorem w_ret (k : te σ H D.rt) : tRet te D σ H := k
theorem w_if {t u : TS} (k : tt σ H fun b H1 => if b = true then t D σ H1 else u D σ H1) : tIfS tt t u D σ H := k
theorem w_par {i j : Nat} {t : TA} (k : t σ H fun vs H1 => ∃ v w, vs = [v, w] ∧ D.nx ((σ.set i (some v)).set j (some w)) H1) : tPar i j t D σ H := k
theorem w_par3 {i j l : Nat} {t : TA} (k : t σ H fun vs H1 => ∃ u v w, vs = [u, v, w] ∧ D.nx (((σ.set i (some u)).set j (some v)).set l (some w)) H1) : tPar3 i j l t D σ H := k
/-- where ways meet: what is known of a value, of a state, behind them -/
theorem w_gen (R : VK) (h : ∀ v H', R v H' → Q v H') (k : ∀ Q0 : VK, (∀ v H', R v H' → Q0 v H') → te σ H Q0) : te σ H Q := k Q h
theorem w_genS {t : TS} (R : L2.St → Hp → Prop) (h : ∀ σ' H', R σ' H' → D.nx σ' H') (k : ∀ D' : Ends, D'.rt = D.rt → D'.bk = D.bk → D'.ct = D.ct → (∀ σ' H', R σ' H' → D'.nx σ' H') → t D' σ H) : t D σ H := k D rfl rfl rfl h
theorem w_genT {R : Bool → Hp → Prop} (T : Bool → Hp → Prop) (h : ∀ b H', T b H' → R b H') (k : ∀ R0 : Bool → Hp → Prop, (∀ b H', T b H' → R0 b H') → tt σ H R0) : tt σ H R := k R h
theorem w_genA {t : TA} {R : List V → Hp → Prop} (T : List V → Hp → Prop) (h : ∀ vs H', T vs H' → R vs H') (k : ∀ R0 : List V → Hp → Prop, (∀ vs H', T vs H' → R0 vs H') → t σ H R0) : t σ H R := k R h
theorem w_ifP {c A B : Prop} [Decidable c] (h : c) (k : A) : if c then A else B := by rw [if_pos h]; exact k
theorem w_ifN {c A B : Prop} [Decidable c] (h : ¬ c) (k : B) : if c then A else B := by rw [if_neg h]; exact k
theorem w_2 {p : Prop} [Decidable p] {A B : Prop} (h1 : p → A) (h2 : ¬ p → B) : if decide p = true then A else B := by
  by_cases h : p
  · rw [if_pos (decide_eq_true h)]; exact h1 h
  · rw [if_neg (by rw [decide_eq_false h]; decide)]; exact h2 h
theorem w_2n {p : Prop} [Decidable p] {A B : Prop} (h1 : ¬ p → A) (h2 : p → B) : if (!decide p) = true then A else B := by
  by_cases h : p
  · rw [if_neg (by rw [decide_eq_true h]; decide)]; exact h2 h
  · rw [if_pos (by rw [decide_eq_false h]; decide)]; exact h1 h
theorem w_gtup {n : Nat} {t : TGs} {a : Addr} {xs : List V} {R : L2.St → Hp → Prop} (h : H a = some (.tup xs)) (hn : xs.length = n) (k : t xs σ H R) : gTup K n t (.ref a) σ H R := ⟨a, xs, rfl, SqT.of h, hn, k⟩
theorem w_gcons {t : TG} {u : TGs} {r : List V} {R : L2.St → Hp → Prop} (k : t v σ H fun σ' H' => u r σ' H' R) : gCons t u (v :: r) σ H R := ⟨v, r, rfl, k⟩
theorem w_gnil {R : L2.St → Hp → Prop} (k : R σ H) : gNil [] σ H R := ⟨rfl, k⟩
/-! tests -/
theorem w_B {R : Bool → Hp → Prop} (k : te σ H fun x H1 => ∃ c, x = .bl c ∧ R c H1) : tB te σ H R := k
theorem w_T {R : Bool → Hp → Prop} (k : te σ H fun x H1 => ∃ c, x = .bl c ∧ R c H1) : tTest te σ H R := k
theorem w_bl {R : Bool → Hp → Prop} {b : Bool} (k : R b H) : ∃ c, V.bl b = .bl c ∧ R c H := ⟨b, rfl, k⟩
theorem w_and {R : Bool → Hp → Prop} (k : tt σ H fun c H1 => if c = true then tu σ H1 R else R false H1) : tAnd tt tu σ H R := k
theorem w_or {R : Bool → Hp → Prop} (k : tt σ H fun c H1 => if c = true then R true H1 else tu σ H1 R) : tOr tt tu σ H R := k
theorem w_not {R : Bool → Hp → Prop} (k : tt σ H fun c H1 => R (!c) H1) : tNot tt σ H R := k
theorem w_andV (k : ta σ H fun x H1 => ∃ c, x = .bl c ∧ if c = true then tb σ H1 Q else Q (.bl false) H1) : tAndV ta tb σ H Q := k
theorem w_orV (k : ta σ H fun x H1 => ∃ c, x = .bl c ∧ if c = true then Q (.bl true) H1 else tb σ H1 Q) : tOrV ta tb σ H Q := k
theorem w_notV (k : ta σ H fun x H1 => ∃ c, x = .bl c ∧ Q (.bl (!c)) H1) : tNotV ta σ H Q := k
theorem w_ifE (k : tt σ H fun c H1 => if c = true then ta σ H1 Q else tb σ H1 Q) : tIf tt ta tb σ H Q := k
theorem w_ex {P : Bool → Prop} {b : Bool} (k : P b) : ∃ c, V.bl b = .bl c ∧ P c := ⟨b, rfl, k⟩
theorem w_isN (k : Q (.bl (decide (x = .non))) H) : (fun (x y : V) (H : Hp) (Q : VK) => y = V.non ∧ Q (.bl (decide (x = .non))) H) x .non H Q := ⟨rfl, k⟩
theorem w_notN (k : Q (.bl (!decide (x = .non))) H) : (fun (x y : V) (H : Hp) (Q : VK) => y = V.non ∧ Q (.bl (!decide (x = .non))) H) x .non H Q := ⟨rfl, k⟩
/-! calls, displays -/
theorem w_nil {R : List V → Hp → Prop} (k : R [] H) : tNil σ H R := k
theorem w_cons {t : TA} {R : List V → Hp → Prop} (k : ta σ H fun x H1 => t σ H1 fun xs H2 => R (x :: xs) H2) : tCons ta t σ H R := k
theorem w_call {sp : Sp} {dvs : List V} {E : XK} {t : TA} (k : t σ H fun vs H1 => sp (vs ++ dvs) H1 Q E) : tCall sp dvs E t σ H Q := k
theorem w_cb {r : List V → Hp → VK → Prop} {t : TA} (k : t σ H fun vs H1 => r vs H1 Q) : tCB r t σ H Q := k
theorem w_tup {t : TA} (k : t σ H fun xs H1 => xs.length ≤ sizeLine ∧ ∀ p, H1 p = none → Q (.ref p) (upd H1 p (.tup xs))) : tTup t σ H Q := k
theorem w_lst {t : TA} (k : t σ H fun xs H1 => xs.length ≤ sizeLine ∧ ∀ p, H1 p = none → Q (.ref p) (upd H1 p (.lst xs))) : tLst t σ H Q := k
theorem w_bm {T : String} {r : V → List V → Hp → VK → Prop} {t : TA} (k : ta σ H fun x H1 => tyV K T x H1 ∧ t σ H1 fun xs H2 => r x xs H2 Q) : tBM K T r ta t σ H Q := k
theorem w_bm0 {T : String} {r : V → List V → Hp → VK → Prop} (k : ta σ H fun x H1 => tyV K T x H1 ∧ r x [] H1 Q) : tBM0 K T r ta σ H Q := k
theorem w_dget (k : ta σ H fun x H1 => tb σ H1 fun y H2 => ∃ a v, x = .ref a ∧ DGet H2 a y (some v) ∧ Q v H2) : tDGet ta tb σ H Q := k
theorem w_din (k : ta σ H fun y H1 => tb σ H1 fun x H2 => ∃ a o, x = .ref a ∧ DGet H2 a y o ∧ Q (.bl o.isSome) H2) : tDIn ta tb σ H Q := k
theorem w_dnotin (k : ta σ H fun y H1 => tb σ H1 fun x H2 => ∃ a o, x = .ref a ∧ DGet H2 a y o ∧ Q (.bl (!o.isSome)) H2) : tDNotIn ta tb σ H Q := k
theorem w_dput (k : tc σ H fun v H1 => ta σ H1 fun x H2 => tb σ H2 fun y H3 => ∃ a H4, x = .ref a ∧ DPut H3 a y v H4 ∧ D.nx σ H4) : sDPut ta tb tc D σ H := k
theorem w_sl {r : V → Option Int → Option Int → Hp → VK → Prop} {tl th : TO} (k : te σ H fun x H1 => tl σ H1 fun l H2 => th σ H2 fun u H3 => r x l u H3 Q) : tSl r te tl th σ H Q := k
theorem w_noPart {R : Option Int → Hp → Prop} (k : R none H) : tNoPart σ H R := k
theorem w_part {R : Option Int → Hp → Prop} (k : te σ H fun x H1 => ∃ i, x = .int i ∧ R (some i) H1) : tPart te σ H R := k
theorem w_exI {P : Int → Prop} {i : Int} (k : P i) : ∃ j, V.int i = .int j ∧ P j := ⟨i, rfl, k⟩
theorem w_yes {R : Bool → Hp → Prop} (k : R true H) : tYes σ H R := k
theorem w_ixL {p : Addr} {xs : List V} {j : Nat} (h : H p = some (.lst xs)) (hx : xs[j]? = some v) (k : Q v H) : rIxL K (.ref p) (.int (j : Int)) H Q := ⟨p, xs, (j : Int), v, rfl, rfl, SqL.of h, atI_nat hx, k⟩
theorem at_ofG {α : Type} {xs : List α} {z : Int} {j : Nat} {v : α} (e : z = (j : Int)) (h : xs[j]? = some v) : atI xs z = some v := by
  rw [e]
  exact atI_nat h
theorem w_ix {p : Addr} {xs : List V} {i : Int} (h : H p = some (.lst xs)) (hx : atI xs i = some v) (k : Q v H) : rIxL K (.ref p) (.int i) H Q := ⟨p, xs, i, v, rfl, rfl, SqL.of h, hx, k⟩
theorem w_ixT {p : Addr} {xs : List V} {i : Int} (h : H p = some (.tup xs)) (hx : atI xs i = some v) (k : Q v H) : rIxT K (.ref p) (.int i) H Q := ⟨p, xs, i, v, rfl, rfl, SqT.of h, hx, k⟩
theorem w_set {p : Addr} {xs : List V} {i : Int} {j : Nat} {R : Hp → Prop} (h : H p = some (.lst xs)) (hj : ixN xs.length i = some j) (k : R (upd H p (.lst (xs.set j v)))) : rSetL (.ref p) (.int i) v H R := ⟨p, xs, i, j, rfl, rfl, h, hj, k⟩
theorem w_setL {p : Addr} {xs : List V} {j : Nat} {R : Hp → Prop} (h : H p = some (.lst xs)) (hj : j < xs.length) (k : R (upd H p (.lst (xs.set j v)))) : rSetL (.ref p) (.int (j : Int)) v H R :=
  ⟨p, xs, j, j, rfl, rfl, h, by unfold ixN; rw [if_pos (by omega), if_pos (by omega)]; simp, k⟩
theorem w_int1 {i : Int} (k : Q (.int i) H) : (fun (xs : List V) (H : Hp) (Q : VK) => (∃ i, xs = [.int i] ∧ Q (.int i) H) ∨ ∃ k, xs = [.bl k] ∧ Q (.int (if k then 1 else 0)) H) [.int i] H Q := .inl ⟨i, rfl, k⟩
theorem w_intB {b : Bool} (k : Q (.int (if b then 1 else 0)) H) : (fun (xs : List V) (H : Hp) (Q : VK) => (∃ i, xs = [.int i] ∧ Q (.int i) H) ∨ ∃ k, xs = [.bl k] ∧ Q (.int (if k then 1 else 0)) H) [.bl b] H Q := .inr ⟨b, rfl, k⟩
theorem w_abs {i : Int} (k : Q (.int (if i < 0 then -i else i)) H) : (fun (xs : List V) (H : Hp) (Q : VK) => ∃ i, xs = [.int i] ∧ Q (.int (if i < 0 then -i else i)) H) [.int i] H Q := ⟨i, rfl, k⟩
theorem w_or1 {P : Int → Prop} {R : Prop} {i : Int} (k : P i) : (∃ j, [V.int i] = [V.int j] ∧ P j) ∨ R := .inl ⟨i, rfl, k⟩
theorem w_or2 {P : Bool → Prop} {R : Prop} {b : Bool} (k : P b) : R ∨ ∃ j, [V.bl b] = [V.bl j] ∧ P j := .inr ⟨b, rfl, k⟩
theorem w_ex1 {P : Int → Prop} {i : Int} (k : P i) : ∃ j, [V.int i] = [V.int j] ∧ P j := ⟨i, rfl, k⟩
theorem w_ex2 {P : Int → Int → Prop} {i j : Int} (k : P i j) : ∃ a b, [V.int i, V.int j] = [V.int a, V.int b] ∧ P a b := ⟨i, j, rfl, k⟩
theorem w_rfl {R : Prop} (k : R) : x = x ∧ R := ⟨rfl, k⟩
theorem w_len {p : Addr} {P : Int → Prop} {ys : List V} (h : SqL K H p ys ∨ SqT K H p ys) (k : P ys.length) : ∃ p' ys', [V.ref p] = [V.ref p'] ∧ (SqL K H p' ys' ∨ SqT K H p' ys') ∧ P ys'.length := ⟨p, ys, rfl, h, k⟩
theorem w_lenS {z : Str} {P : Int → Prop} (h : z.length ≤ sizeLine) (k : P z.length) : ∃ z', [V.str z] = [V.str z'] ∧ z'.length ≤ sizeLine ∧ P z'.length := ⟨z, rfl, h, k⟩
theorem w_pr2 {P : V → V → Prop} (k : P x y) : ∃ a b, [x, y] = [a, b] ∧ P a b := ⟨x, y, rfl, k⟩
theorem w_pr3 {P : V → V → V → Prop} {z : V} (k : P x y z) : ∃ a b c, [x, y, z] = [a, b, c] ∧ P a b c := ⟨x, y, z, rfl, k⟩
theorem w_inT {p : Addr} {xs : List V} (h : H p = some (.tup xs)) (hx : flatV x = true) (ha : xs.all flatV = true) (k : Q (.bl (inV x xs)) H) : rIn K false x (.ref p) H Q := ⟨p, xs, rfl, .inr (SqT.of h), hx, ha, k⟩
theorem w_ninT {p : Addr} {xs : List V} (h : H p = some (.tup xs)) (hx : flatV x = true) (ha : xs.all flatV = true) (k : Q (.bl (!inV x xs)) H) : rIn K true x (.ref p) H Q := ⟨p, xs, rfl, .inr (SqT.of h), hx, ha, k⟩
theorem sz {n : Nat} (h : n ≤ 1000 := by simp) : n ≤ sizeLine := Nat.le_trans h (by decide)
theorem sz' {n : Nat} (h : n < 100000) : n < sizeLine := Nat.lt_of_lt_of_le h (by decide)
theorem w_app {l : Addr} {xs : List V} {y : V} (h : H l = some (.lst xs)) (hz : xs.length < sizeLine) (k : Q .non (upd H l (.lst (xs ++ [y])))) : rAppend (.ref l) [y] H Q := ⟨l, xs, y, rfl, rfl, h, hz, k⟩
theorem w_tyL {l : Addr} {xs : List V} {P : Prop} (h : H l = some (.lst xs)) (k : P) : tyV K "list" (.ref l) H ∧ P := ⟨.inl ⟨rfl, xs, SqL.of h⟩, k⟩
end
end WK

set_option Elab.async false
set_option linter.all false
set_option maxRecDepth 100000
/-! Heaps that grow; events, timetables, where readers are: the mathematics of what the law draws. -/
namespace PK
open PySem L2

/-! ### heaps that grow, but for what is at M -/
structure Gr (M : List Addr) (H H' : Hp) : Prop where
  keep : ∀ a o, a ∉ M → H a = some o → H' a = some o
  tup : ∀ a xs, H a = some (.tup xs) → H' a = some (.tup xs)
  fix : ∀ a o u, H a = some (.frz o u) → H' a = some (.frz o u)
  live : ∀ a, H' a = none → H a = none
theorem Gr.refl (M : List Addr) (H : Hp) : Gr M H H := ⟨fun _ _ _ h => h, fun _ _ h => h, fun _ _ _ h => h, fun _ h => h⟩
theorem Gr.trans {M : List Addr} {H H1 H2 : Hp} (g : Gr M H H1) (g' : Gr M H1 H2) : Gr M H H2 :=
  ⟨fun a o n h => g'.keep a o n (g.keep a o n h), fun a xs h => g'.tup a xs (g.tup a xs h), fun a o u h => g'.fix a o u (g.fix a o u h), fun a h => g.live a (g'.live a h)⟩
theorem Gr.mono {M M' : List Addr} {H H1 : Hp} (g : Gr M H H1) (h : ∀ a ∈ M, a ∈ M') : Gr M' H H1 :=
  ⟨fun a o n e => g.keep a o (fun z => n (h a z)) e, g.tup, g.fix, g.live⟩
theorem Gr.new {M : List Addr} {H : Hp} {p : Addr} {o : HO} (h : H p = none) : Gr M H (upd H p o) :=
  ⟨fun a u _ e => by rw [upd_ne (ne_of_none e h)]; exact e, fun a u e => by rw [upd_ne (ne_of_none e h)]; exact e, fun a u v e => by rw [upd_ne (ne_of_none e h)]; exact e, fun a e => by
    by_cases q : a = p
    · rw [q]; exact h
    · rw [upd_ne q] at e; exact e⟩
theorem Gr.mut {M : List Addr} {H : Hp} {p : Addr} {o u : HO} (h : H p = some u) (hn : ∀ xs, u ≠ .tup xs) (hm : p ∈ M) (hf : ∀ o v, u ≠ .frz o v := by intro _ _ z; cases z) : Gr M H (upd H p o) :=
  ⟨fun a v n e => by rw [upd_ne (fun q => n (by rw [q]; exact hm))]; exact e, fun a xs e => by rw [upd_ne (fun q => by subst q; rw [h] at e; exact hn xs (Option.some.inj e))]; exact e, fun a o v e => by rw [upd_ne (fun q => by subst q; rw [h] at e; exact hf o v (Option.some.inj e))]; exact e, fun a e => by
    by_cases q : a = p
    · subst q; rw [upd_same] at e; cases e
    · rw [upd_ne q] at e; exact e⟩
theorem Gr.mutL {M : List Addr} {H : Hp} {p : Addr} {xs : List V} {o : HO} (h : H p = some (.lst xs)) (hm : p ∈ M) : Gr M H (upd H p o) := Gr.mut h (fun _ q => by cases q) hm
theorem Gr.mutD {M : List Addr} {H : Hp} {p : Addr} {kvs : List (Key × V)} {o : HO} (h : H p = some (.dK kvs)) (hm : p ∈ M) : Gr M H (upd H p o) := Gr.mut h (fun _ q => by cases q) hm
/-- what was made after H may change -/
theorem Gr.own {M : List Addr} {H H1 H2 : Hp} {p : Addr} (g : Gr M H H1) (g' : Gr (p :: M) H1 H2) (h : H p = none) : Gr M H H2 :=
  ⟨fun a o n e => g'.keep a o (fun z => (List.mem_cons.mp z).elim (fun q => by rw [q, h] at e; cases e) n) (g.keep a o n e), fun a xs e => g'.tup a xs (g.tup a xs e), fun a o u e => g'.fix a o u (g.fix a o u e), fun a e => g.live a (g'.live a e)⟩
theorem Gr.sub {M : List Addr} {H H1 H2 : Hp} {L : List Addr} (g : Gr M H H1) (g' : Gr (L ++ M) H1 H2) (h : ∀ p ∈ L, H p = none) : Gr M H H2 :=
  ⟨fun a o n e => g'.keep a o (fun z => (List.mem_append.mp z).elim (fun q => by rw [h a q] at e; cases e) n) (g.keep a o n e), fun a xs e => g'.tup a xs (g.tup a xs e), fun a o u e => g'.fix a o u (g.fix a o u e), fun a e => g.live a (g'.live a e)⟩
theorem Gr.k1 {b a : Addr} {H H' : Hp} {o : HO} (g : Gr [b] H H') (h : H a = some o) (n : a ≠ b) : H' a = some o := g.keep a o (by simpa using n) h
theorem Gr.k0 {a : Addr} {H H' : Hp} {o : HO} (g : Gr [] H H') (h : H a = some o) : H' a = some o := g.keep a o (by simp) h
theorem Gr.ex {H H' : Hp} (g : Gr [] H H') : ∀ a o, H a = some o → H' a = some o := fun a o h => g.k0 h
theorem Gr.of_ex {M : List Addr} {H H' : Hp} (g : ∀ a o, H a = some o → H' a = some o) : Gr M H H' := ⟨fun a o _ h => g a o h, fun a xs h => g a _ h, fun a o u h => g a _ h, fun a h => by
  cases q : H a with
  | none => rfl
  | some o => rw [g a o q] at h; cases h⟩

/-! ### a source of draws: room for n more -/
def Bx (H : Hp) (b : Addr) (n : Nat) : Prop := ∃ x s c : Int, H b = some (.lst [.int x, .int s, .int c]) ∧ 0 ≤ x ∧ 0 ≤ s ∧ s < 2147483563 ∧ 0 ≤ c ∧ c + n ≤ 1000000
theorem Bx.mono {H : Hp} {b : Addr} {n m : Nat} (h : Bx H b n) (l : m ≤ n) : Bx H b m := by
  obtain ⟨x, s, c, e, h1, h2, h3, h4, h5⟩ := h
  exact ⟨x, s, c, e, h1, h2, h3, h4, by omega⟩
theorem Bx.keep {H H' : Hp} {b : Addr} {n : Nat} {M : List Addr} (h : Bx H b n) (g : Gr M H H') (hb : b ∉ M) : Bx H' b n := by
  obtain ⟨x, s, c, e, r⟩ := h
  exact ⟨x, s, c, g.keep b _ hb e, r⟩
theorem Bx.lst {H : Hp} {b : Addr} {n : Nat} (h : Bx H b n) : ∃ xs, H b = some (.lst xs) := by
  obtain ⟨x, s, c, e, _⟩ := h
  exact ⟨_, e⟩

/-! ### events -/
inductive Ev where
  | put (k : Str) (v : Int) | drop (k : Str) | join (r : Int) | read (r u : Int) | save (r : Int) | load (r c : Int) | wait
def Ev.vs : Ev → List V
  | .put k v => [.str "put", .str k, .int v]
  | .drop k => [.str "drop", .str k]
  | .join r => [.str "join", .int r]
  | .read r u => [.str "read", .int r, .int u]
  | .save r => [.str "save", .int r]
  | .load r c => [.str "load", .int r, .int c]
  | .wait => [.str "wait"]
def Ev.word : Ev → Str
  | .put _ _ => "put"
  | .drop _ => "drop"
  | .join _ => "join"
  | .read _ _ => "read"
  | .save _ => "save"
  | .load _ _ => "load"
  | .wait => "wait"
theorem Ev.at0 (e : Ev) : atI e.vs 0 = some (.str e.word) := by cases e <;> rfl
def KeyOk (k : Str) : Prop := k = "a" ∨ k = "b" ∨ k = "cc" ∨ k = "abc"
def Ev.ok : Ev → Prop
  | .put k v => KeyOk k ∧ 0 ≤ v ∧ v < 9
  | .drop k => KeyOk k
  | .join r => 0 ≤ r ∧ r < 4
  | .read r u => (0 ≤ r ∧ r < 4) ∧ 0 < u
  | .save r => 0 ≤ r ∧ r < 4
  | .load r c => (0 ≤ r ∧ r < 4) ∧ 0 ≤ c
  | .wait => True
/-- a value that is this event, as a tuple -/
def IsEv (H : Hp) (v : V) (e : Ev) : Prop := ∃ a, v = .ref a ∧ H a = some (.tup e.vs)
abbrev Evs (H : Hp) : List V → List Ev → Prop := Paired (IsEv H)
theorem IsEv.gr {H H' : Hp} {M : List Addr} {v : V} {e : Ev} (h : IsEv H v e) (g : Gr M H H') : IsEv H' v e := by
  obtain ⟨a, q, h⟩ := h
  exact ⟨a, q, g.tup a _ h⟩
theorem Evs.gr {H H' : Hp} {M : List Addr} {xs : List V} {es : List Ev} (h : Evs H xs es) (g : Gr M H H') : Evs H' xs es := Paired.mono (fun _ _ q => q.gr g) h
theorem pr_append {α β : Type} {F : α → β → Prop} : ∀ {a : List α} {b : List β} {c : List α} {d : List β}, Paired F a b → Paired F c d → Paired F (a ++ c) (b ++ d)
  | _, _, _, _, .nil, h => h
  | _, _, _, _, .cons h t, h' => .cons h (pr_append t h')
theorem pr_get {α β : Type} {F : α → β → Prop} : ∀ {a : List α} {b : List β} {i : Nat} {x : α}, Paired F a b → a[i]? = some x → ∃ y, b[i]? = some y ∧ F x y
  | _, _, _, _, .nil, h => by simp at h
  | _, _, 0, _, .cons h t, e => by simp at e; subst e; exact ⟨_, rfl, h⟩
  | _, _, i + 1, x, .cons h t, e => by
    obtain ⟨y, e1, e2⟩ := pr_get (i := i) (x := x) t (by simpa using e)
    exact ⟨y, by simpa using e1, e2⟩
theorem pr_get' {α β : Type} {F : α → β → Prop} : ∀ {a : List α} {b : List β} {i : Nat} {y : β}, Paired F a b → b[i]? = some y → ∃ x, a[i]? = some x ∧ F x y
  | _, _, _, _, .nil, h => by simp at h
  | _, _, 0, _, .cons h t, e => by simp at e; subst e; exact ⟨_, rfl, h⟩
  | _, _, i + 1, x, .cons h t, e => by
    obtain ⟨y, e1, e2⟩ := pr_get' (i := i) (y := x) t (by simpa using e)
    exact ⟨y, by simpa using e1, e2⟩
/-- a timetable, as a tuple of tuples -/
def IsTT (H : Hp) (v : V) (es : List Ev) : Prop := ∃ a xs, v = .ref a ∧ H a = some (.tup xs) ∧ Evs H xs es
theorem IsTT.gr {H H' : Hp} {M : List Addr} {v : V} {es : List Ev} (h : IsTT H v es) (g : Gr M H H') : IsTT H' v es := by
  obtain ⟨a, xs, q, h, he⟩ := h
  exact ⟨a, xs, q, g.tup a _ h, he.gr g⟩

/-! ### where readers are -/
structure WS where
  seats : Int → Option Int
  copies : List Int
  many : Int
def WS.nil : WS := ⟨fun _ => none, [], 0⟩
def WS.seat (s : WS) (r p : Int) : WS := { s with seats := fun i => if i = r then some p else s.seats i }
def WS.step (s : WS) : Ev → WS
  | .put _ _ => { s with many := s.many + 1 }
  | .drop _ => { s with many := s.many + 1 }
  | .join r => s.seat r 0
  | .read r u => s.seat r u
  | .save r => { s with copies := s.copies ++ [(s.seats r).getD 0] }
  | .load r c => s.seat r (s.copies.getD c.toNat 0)
  | .wait => s
def WS.fits (s : WS) : Ev → Prop
  | .read r u => ∃ p, s.seats r = some p ∧ p < u ∧ u ≤ s.many
  | .save r => ∃ p, s.seats r = some p
  | .load _ c => 0 ≤ c ∧ c < s.copies.length
  | _ => True
def WS.run (s : WS) (es : List Ev) : WS := es.foldl WS.step s
def Valid : WS → List Ev → Prop
  | _, [] => True
  | s, e :: es => s.fits e ∧ Valid (s.step e) es
theorem run_append (s : WS) (a b : List Ev) : s.run (a ++ b) = (s.run a).run b := by unfold WS.run; rw [List.foldl_append]
theorem run_snoc (s : WS) (a : List Ev) (e : Ev) : s.run (a ++ [e]) = (s.run a).step e := by rw [run_append]; rfl
theorem valid_append : ∀ {s : WS} {a b : List Ev}, Valid s (a ++ b) ↔ Valid s a ∧ Valid (s.run a) b
  | s, [], b => ⟨fun h => ⟨True.intro, h⟩, fun h => h.2⟩
  | s, e :: a, b => by
    have ih := @valid_append (s.step e) a b
    constructor
    · intro h
      exact ⟨⟨h.1, (ih.mp h.2).1⟩, (ih.mp h.2).2⟩
    · intro h
      exact ⟨h.1.1, ih.mpr ⟨h.1.2, h.2⟩⟩
theorem valid_snoc {s : WS} {a : List Ev} {e : Ev} (h : Valid s a) (f : (s.run a).fits e) : Valid s (a ++ [e]) := valid_append.mpr ⟨h, f, True.intro⟩
theorem valid_take {s : WS} {a : List Ev} (h : Valid s a) (i : Nat) {e : Ev} (he : a[i]? = some e) : (s.run (a.take i)).fits e := by
  have q : a = a.take i ++ a.drop i := (List.take_append_drop i a).symm
  rw [q] at h
  have h2 := (valid_append.mp h).2
  obtain ⟨hi, e1⟩ := List.getElem?_eq_some_iff.mp he
  rw [List.drop_eq_getElem_cons hi, e1] at h2
  exact h2.1
theorem take_snoc {α : Type} {a : List α} {i : Nat} {e : α} (he : a[i]? = some e) : a.take (i + 1) = a.take i ++ [e] := by rw [List.take_add_one, he]; rfl
/-- whoever is somewhere stays somewhere -/
theorem step_some {s : WS} {e : Ev} {r : Int} (h : (s.seats r).isSome = true) : ((s.step e).seats r).isSome = true := by
  cases e <;> simp only [WS.step, WS.seat] <;> first | exact h | (split <;> first | rfl | exact h)
theorem run_some {r : Int} : ∀ {s : WS} {es : List Ev}, (s.seats r).isSome = true → ((s.run es).seats r).isSome = true
  | s, [], h => h
  | s, e :: es, h => run_some (s := s.step e) (es := es) (step_some h)

/-! ### the law's dict of these -/
abbrev wK (sd cl : Addr) (m : Int) : List (Key × V) := [(.inr "seats", .ref sd), (.inr "copies", .ref cl), (.inr "many", .int m)]
def SeatsAt (H : Hp) (sd : Addr) (f : Int → Option Int) (n : Nat) : Prop := ∃ (kvs : List (Key × V)) (ks : List Int), H sd = some (.dK kvs) ∧ kvs.map (·.1) = ks.map Sum.inl ∧ ks.Nodup ∧ ks.length ≤ n ∧ (∀ r, r ∈ ks ↔ (f r).isSome = true) ∧ ∀ r, valV kvs (.inl r) = (f r).map V.int
structure WAt (H : Hp) (w sd cl : Addr) (st : WS) (n : Nat) : Prop where
  w : H w = some (.dK (wK sd cl st.many))
  s : SeatsAt H sd st.seats n
  c : H cl = some (.lst (st.copies.map V.int))
  cn : st.copies.length ≤ n
theorem WAt.keep {H H' : Hp} {w sd cl : Addr} {st : WS} {n : Nat} {M : List Addr} (h : WAt H w sd cl st n) (g : Gr M H H') (h1 : w ∉ M) (h2 : sd ∉ M) (h3 : cl ∉ M) : WAt H' w sd cl st n := by
  obtain ⟨hw, ⟨kvs, ks, hs, r⟩, hc, cn⟩ := h
  exact ⟨g.keep _ _ h1 hw, ⟨kvs, ks, g.keep _ _ h2 hs, r⟩, g.keep _ _ h3 hc, cn⟩
theorem WAt.mono {H : Hp} {w sd cl : Addr} {st : WS} {n m : Nat} (h : WAt H w sd cl st n) (l : n ≤ m) : WAt H w sd cl st m := by
  obtain ⟨hw, ⟨kvs, ks, hs, r1, r2, r3, r4⟩, hc, cn⟩ := h
  exact ⟨hw, ⟨kvs, ks, hs, r1, r2, by omega, r4⟩, hc, by omega⟩
theorem SeatsAt.keys {H : Hp} {sd : Addr} {f : Int → Option Int} {n : Nat} {kvs : List (Key × V)} (h : SeatsAt H sd f n) (e : H sd = some (.dK kvs)) : ∀ k ∈ kvs.map (·.1), ∃ i, k = Sum.inl i := by
  obtain ⟨kvs', ks, hs, r1, _⟩ := h
  rw [e] at hs
  cases hs
  intro k hk
  rw [r1] at hk
  obtain ⟨i, _, q⟩ := List.mem_map.mp hk
  exact ⟨i, q.symm⟩
theorem WAt.ne1 {H : Hp} {w sd cl : Addr} {st : WS} {n : Nat} (h : WAt H w sd cl st n) : w ≠ sd := fun e => by
  have hw := h.w
  rw [e] at hw
  obtain ⟨i, q⟩ := h.s.keys hw (.inr "seats") (by simp)
  cases q
theorem WAt.ne2 {H : Hp} {w sd cl : Addr} {st : WS} {n : Nat} (h : WAt H w sd cl st n) : w ≠ cl := ne_of h.w h.c (by intro q; cases q)
theorem WAt.ne3 {H : Hp} {w sd cl : Addr} {st : WS} {n : Nat} (h : WAt H w sd cl st n) : sd ≠ cl := by
  obtain ⟨kvs, ks, hs, _⟩ := h.s
  exact ne_of hs h.c (by intro q; cases q)
theorem s_sc : ¬ (("seats" : Str) = "copies") := by decide +kernel
theorem s_sm : ¬ (("seats" : Str) = "many") := by decide +kernel
theorem s_cm : ¬ (("copies" : Str) = "many") := by decide +kernel
theorem k_sc : ¬ ((Sum.inr ("seats" : Str) : Key) = (Sum.inr ("copies" : Str) : Key)) := fun e => s_sc (Sum.inr.inj e)
theorem k_sm : ¬ ((Sum.inr ("seats" : Str) : Key) = (Sum.inr ("many" : Str) : Key)) := fun e => s_sm (Sum.inr.inj e)
theorem k_cm : ¬ ((Sum.inr ("copies" : Str) : Key) = (Sum.inr ("many" : Str) : Key)) := fun e => s_cm (Sum.inr.inj e)
theorem wK_seats {sd cl : Addr} {m : Int} : valV (wK sd cl m) (.inr "seats") = some (.ref sd) := valV_pos rfl
theorem wK_copies {sd cl : Addr} {m : Int} : valV (wK sd cl m) (.inr "copies") = some (.ref cl) := (valV_neg k_sc).trans (valV_pos rfl)
theorem wK_many {sd cl : Addr} {m : Int} : valV (wK sd cl m) (.inr "many") = some (.int m) := (valV_neg k_sm).trans ((valV_neg k_cm).trans (valV_pos rfl))
theorem wK_put {sd cl : Addr} {m j : Int} : putK (wK sd cl m) (.inr "many") (.int j) = wK sd cl j := by
  unfold putK wK
  simp [s_sm, s_cm]
theorem wK_merge {sd cl : Addr} {m : Int} : mergeK [] (wK sd cl m) = wK sd cl m := by
  unfold mergeK wK
  simp only [List.foldl_cons, List.foldl_nil]
  have e1 : putK ([] : List (Key × V)) (.inr "seats") (.ref sd) = [(.inr "seats", .ref sd)] := rfl
  rw [e1, putK_new _ ((valV_neg k_sc).trans valV_nil)]
  rw [putK_new _ (by exact (valV_neg k_sm).trans ((valV_neg k_cm).trans valV_nil))]
  rfl
theorem SeatsAt.put {H : Hp} {sd : Addr} {f : Int → Option Int} {n : Nat} {kvs : List (Key × V)} {r p : Int} (h : SeatsAt H sd f n) (e : H sd = some (.dK kvs)) :
    SeatsAt (upd H sd (.dK (putK kvs (.inl r) (.int p)))) sd (fun i => if i = r then some p else f i) (n + 1) := by
  obtain ⟨kvs', ks, hs, r1, r2, r3, r4, r5⟩ := h
  rw [e] at hs
  cases hs
  by_cases hr : r ∈ ks
  · refine ⟨_, ks, upd_same, ?_, r2, by omega, fun i => ?_, fun i => ?_⟩
    · rw [← r1]
      unfold putK
      rw [if_pos]
      · rw [List.map_map]
        refine List.map_congr_left fun x _ => ?_
        show (if x.1 = Sum.inl r then (x.1, V.int p) else x).1 = x.1
        split <;> rfl
      · have : (Sum.inl r : Key) ∈ kvs.map (·.1) := by rw [r1]; exact List.mem_map.mpr ⟨r, hr, rfl⟩
        obtain ⟨x, hx, q⟩ := List.mem_map.mp this
        exact List.any_eq_true.mpr ⟨x, hx, decide_eq_true q⟩
    · show i ∈ ks ↔ (if i = r then some p else f i).isSome = true
      by_cases q : i = r
      · subst q; simp [hr]
      · rw [if_neg q]; exact r4 i
    · rw [valV_put]
      by_cases q : i = r
      · subst q; simp
      · rw [if_neg (fun z => q (Sum.inl.inj z)), r5 i]
        show _ = Option.map V.int (if i = r then some p else f i)
        rw [if_neg q]
  · have hv : valV kvs (.inl r) = none := by
      rw [r5]
      cases q : f r with
      | none => rfl
      | some z => exact (hr ((r4 r).mpr (by rw [q]; rfl))).elim
    refine ⟨_, ks ++ [r], upd_same, ?_, nd_snoc r2 hr, by rw [List.length_append, List.length_singleton]; omega, fun i => ?_, fun i => ?_⟩
    · rw [putK_new _ hv, List.map_append, List.map_append, r1]
      rfl
    · show i ∈ ks ++ [r] ↔ (if i = r then some p else f i).isSome = true
      rw [List.mem_append, List.mem_singleton]
      by_cases q : i = r
      · subst q; simp
      · rw [if_neg q]
        constructor
        · intro z; exact (r4 i).mp (z.resolve_right q)
        · intro z; exact .inl ((r4 i).mpr z)
    · rw [valV_put]
      by_cases q : i = r
      · subst q; simp
      · rw [if_neg (fun z => q (Sum.inl.inj z)), r5 i]
        show _ = Option.map V.int (if i = r then some p else f i)
        rw [if_neg q]
section
variable {H : Hp} {w sd cl : Addr} {st : WS} {n : Nat}
theorem WAt.g_seats (h : WAt H w sd cl st n) : DGet H w (.str "seats") (some (.ref sd)) := by
  have q := DGet.k (k := .inr "seats") h.w
  rw [wK_seats] at q
  exact q
theorem WAt.g_copies (h : WAt H w sd cl st n) : DGet H w (.str "copies") (some (.ref cl)) := by
  have q := DGet.k (k := .inr "copies") h.w
  rw [wK_copies] at q
  exact q
theorem WAt.g_many (h : WAt H w sd cl st n) : DGet H w (.str "many") (some (.int st.many)) := by
  have q := DGet.k (k := .inr "many") h.w
  rw [wK_many] at q
  exact q
theorem WAt.g_seat (h : WAt H w sd cl st n) (r : Int) : DGet H sd (.int r) ((st.seats r).map V.int) := by
  obtain ⟨kvs, ks, hs, _, _, _, _, h5⟩ := h.s
  have q := DGet.k (k := .inl r) hs
  rw [h5] at q
  exact q
theorem WAt.p_many (h : WAt H w sd cl st n) (j : Int) : DPut H w (.str "many") (.int j) (upd H w (.dK (wK sd cl j))) := by
  have q := DPut.k (k := .inr "many") (v := .int j) h.w (by show 3 < sizeLine; decide)
  rw [wK_put] at q
  exact q
theorem WAt.many (h : WAt H w sd cl st n) (j : Int) : WAt (upd H w (.dK (wK sd cl j))) w sd cl { st with many := j } n := by
  obtain ⟨kvs, ks, hs, r⟩ := h.s
  exact ⟨upd_same, ⟨kvs, ks, by rw [upd_ne h.ne1.symm]; exact hs, r⟩, by rw [upd_ne h.ne2.symm]; exact h.c, h.cn⟩
theorem WAt.p_seat (h : WAt H w sd cl st n) (hn : n ≤ 1000) (r p : Int) : ∃ o, DPut H sd (.int r) (.int p) (upd H sd o) ∧ WAt (upd H sd o) w sd cl (st.seat r p) (n + 1) ∧ Gr [w, sd, cl] H (upd H sd o) := by
  obtain ⟨kvs, ks, hs, q1, q2, q3, q4⟩ := id h.s
  have hl : kvs.length < sizeLine := by
    have e : kvs.length = ks.length := by rw [← List.length_map (f := (·.1)), q1, List.length_map]
    rw [e]
    exact Nat.lt_of_le_of_lt (Nat.le_trans q3 hn) (by decide)
  refine ⟨_, DPut.k (k := .inl r) hs hl, ⟨?_, h.s.put hs, ?_, Nat.le_succ_of_le h.cn⟩, Gr.mutD hs (by simp)⟩
  · rw [upd_ne h.ne1]; exact h.w
  · rw [upd_ne h.ne3.symm]; exact h.c
end
/-! ### data: how deep, and that it can be compared -/
def Sh (d : PyData) (n : Nat) : Prop := d.canLay0 = true ∧ d.depth ≤ n
def ShA (ds : List PyData) (n : Nat) : Prop := PyData.canLayAll0 ds = true ∧ PyData.depthAll ds ≤ n
theorem ShA.nil {n : Nat} : ShA [] n := ⟨by simp [PyData.canLayAll0], by simp [PyData.depthAll]⟩
theorem ShA.cons {d : PyData} {ds : List PyData} {n : Nat} (h : Sh d n) (t : ShA ds n) : ShA (d :: ds) n := ⟨by simp [PyData.canLayAll0, h.1, t.1], by
  have h1 := h.2
  have h2 := t.2
  simp only [PyData.depthAll]
  omega⟩
theorem ShA.of : ∀ {ds : List PyData} {n : Nat}, (∀ d ∈ ds, Sh d n) → ShA ds n
  | [], _, _ => .nil
  | d :: ds, n, h => .cons (h d (by simp)) (ShA.of fun e he => h e (by simp [he]))
theorem ShA.append : ∀ {a b : List PyData} {n : Nat}, ShA a n → ShA b n → ShA (a ++ b) n
  | [], b, n, _, h => h
  | d :: a, b, n, h, h' => by
    have h1 := h.1
    have h2 := h.2
    simp only [PyData.canLayAll0, Bool.and_eq_true] at h1
    simp only [PyData.depthAll] at h2
    exact .cons ⟨h1.1, by omega⟩ (ShA.append ⟨h1.2, by omega⟩ h')
theorem ShA.list {ds : List PyData} {n : Nat} (h : ShA ds n) : Sh (.list ds) (n + 1) := ⟨by simp only [PyData.canLay0]; exact h.1, by simp only [PyData.depth]; have := h.2; omega⟩
theorem ShA.tuple {ds : List PyData} {n : Nat} (h : ShA ds n) : Sh (.tuple ds) (n + 1) := ⟨by simp only [PyData.canLay0]; exact h.1, by simp only [PyData.depth]; have := h.2; omega⟩
theorem Sh.int {i : Int} {n : Nat} : Sh (.int i) n := ⟨by simp [PyData.canLay0], by simp [PyData.depth]⟩
theorem Sh.none {n : Nat} : Sh .none n := ⟨by simp [PyData.canLay0], by simp [PyData.depth]⟩
theorem Sh.str {x : Str} {n : Nat} (h : PyData.strOk x = true) : Sh (.str x) n := ⟨by simp only [PyData.canLay0]; exact h, by simp [PyData.depth]⟩
theorem Sh.mono {d : PyData} {n m : Nat} (h : Sh d n) (l : n ≤ m) : Sh d m := ⟨h.1, Nat.le_trans h.2 l⟩
theorem ShA.mono {d : List PyData} {n m : Nat} (h : ShA d n) (l : n ≤ m) : ShA d m := ⟨h.1, Nat.le_trans h.2 l⟩
theorem Sh.shaped {d : PyData} {n : Nat} (h : Sh d n) (l : n ≤ 64 := by decide) : SeqAt.shaped d = true := by
  unfold SeqAt.shaped
  rw [h.1, decide_eq_true (Nat.le_trans h.2 l)]
  rfl
theorem ShA.ints {n : Nat} : ∀ ns : List Int, ShA (ns.map PyData.int) n
  | [] => .nil
  | i :: r => .cons .int (ShA.ints r)
/-- a list of data beside a new empty one -/
theorem w_neNil {K : PySem.W.Frag} {H : Hp} {Q : VK} {a p : Addr} {xs : List V} {ds : List PyData} {n : Nat} (h : SqL K H a xs) (hd : DpAll K H xs ds) (hs : ShA ds n) (l : n ≤ 63 := by decide) (he : H p = some (.lst [])) (k : Q (.bl (!ds.isEmpty)) H) : rNeD K (.ref a) (.ref p) H Q :=
  ⟨.list ds, .list [], .lst h hd, .lst (SqL.of he) .nil, hs.list.shaped (by omega), (ShA.nil (n := 0)).list.shaped, by
    have e : PyData.eqv (.list ds) (.list []) = ds.isEmpty := by cases ds <;> simp [PyData.eqv, PyData.eqvAll]
    rw [e]
    exact k⟩
/-- a list of ints beside a new empty one -/
theorem dp_ints {K : PySem.W.Frag} {H : Hp} : ∀ ns : List Int, DpAll K H (ns.map V.int) (ns.map PyData.int)
  | [] => .nil
  | i :: r => .cons (.int i) (dp_ints r)
end PK

set_option Elab.async false
set_option linter.all false
set_option maxRecDepth 100000
/-! A def that stands at its name and keeps a promise. -/
namespace PK
open PySem L2
/-- a def of the text stands at its name -/
structure Df (K : PySem.W.Frag) (mg : Str → Option Value) (x : Str) (st : Stmt) (ps : List Str) : Prop where
  ex : ∃ f fd, Fun K x x st f fd ∧ mg x = some (.ref f) ∧ Binds K fd ps []
/-- .. and keeps its promise -/
structure Has (P : Program) (w : World) (K : PySem.W.Frag) (mg : Str → Option Value) (base : Heap) (k : Nat) (x : Str) (ps : List Str) (sp : Sp) : Prop where
  ex : ∃ f fd, FnOk P w K mg base CX0 k f fd ps sp ∧ mg x = some (.ref f) ∧ PySem.W.keepIn K (.ref f) = true ∧ Binds K fd ps []
section
variable {P : Program} {w : World} {K : PySem.W.Frag} {mg : Str → Option Value} {base : Heap}
theorem Has.mk' {k : Nat} {x : Str} {st : Stmt} {ps : List Str} {sp : Sp} (D : Df K mg x st ps) (h : ∀ f fd, Fun K x x st f fd → FnOk P w K mg base CX0 k f fd ps sp) : Has P w K mg base k x ps sp := by
  obtain ⟨f, fd, F, m, b⟩ := D.ex
  exact ⟨f, fd, h f fd F, m, F.kp, b⟩
theorem Has.mono {j k : Nat} {x : Str} {ps : List Str} {sp : Sp} (h : Has P w K mg base j x ps sp) (l : j ≤ k) : Has P w K mg base k x ps sp := by
  obtain ⟨f, fd, F, r⟩ := h.ex
  exact ⟨f, fd, F.mono l, r⟩
theorem Has.imp {k : Nat} {x : Str} {ps : List Str} {sp sp' : Sp} (h : Has P w K mg base k x ps sp) (i : ∀ vs H Q E, sp' vs H Q E → sp vs H Q E) : Has P w K mg base k x ps sp' := by
  obtain ⟨f, fd, F, r⟩ := h.ex
  exact ⟨f, fd, F.imp i, r⟩
end
section
variable {X : Cx} {k : Nat} {x : Str} {ps : List Str} {sp : Sp} {e : Expr} {es : List Expr} {pos p : Pos} {t : TA}
theorem pe_callH (D : Has X.prog X.w X.K X.mg X.base k x ps sp) (hr : Room k X.A) (hg : Gl X x) (ha : PA X (e :: es) t) (hdb : (x == ("__debug__" : Str)) = false := by decide)
    (he : starEach (e :: es) X.env = (false, eval e X.env) :: starEach es X.env := by rfl) (hpl : (backTo pos (starEach es X.env)).any (·.1) = false := by rfl) :
    PE X (.Call (.Name x p) (e :: es) [] pos) (tCall sp [] E0 t) := by
  obtain ⟨f, fd, F, m, kp, b⟩ := D.ex
  exact pe_call F hr hg m kp b .nil pass0 ha hdb he hpl
end
/-! ### rules that read lists, with the written part K told: for a comprehension's block -/
section
variable {X : Cx} {K : PySem.W.Frag}
theorem ix_listK (hK : X.K = K := by rfl) : IxR X (rIxL K) := by subst hK; exact ix_list
theorem ix_tupK (hK : X.K = K := by rfl) : IxR X (rIxT K) := by subst hK; exact ix_tup
theorem ix_seqK (hK : X.K = K := by rfl) : IxR X (rIx K) := by subst hK; exact ix_seq
theorem op_in_seqK (hK : X.K = K := by rfl) : OpR X (compareOp .In) (rIn K false) := by subst hK; exact op_in_seq
theorem op_notIn_seqK (hK : X.K = K := by rfl) : OpR X (compareOp .NotIn) (rIn K true) := by subst hK; exact op_notIn_seq
theorem op_eqDK (hu : X.A.units + 64 < cLine) (hK : X.K = K := by rfl) : OpR X (compareOp .Eq) (rEqD K) := by subst hK; exact op_eqD hu
theorem op_neDK (hu : X.A.units + 64 < cLine) (hK : X.K = K := by rfl) : OpR X (compareOp .NotEq) (rNeD K) := by subst hK; exact op_neD hu
theorem sl_listK (hK : X.K = K := by rfl) : SlR X (rSlL K) := by subst hK; exact sl_list
theorem sl_tupAK (hK : X.K = K := by rfl) : SlR X (rSlA K) := by subst hK; exact sl_tupA
theorem op_catAK (hK : X.K = K := by rfl) : OpR X (binaryOp .Add) (rCatA K) := by subst hK; exact op_catA
def rLenQ (K : PySem.W.Frag) : List V → Hp → VK → Prop := fun xs H Q => ∃ p ys, xs = [.ref p] ∧ (SqL K H p ys ∨ SqT K H p ys) ∧ Q (.int ys.length) H
theorem call_len_seqK (hK : X.K = K := by rfl) : CallR X (.builtin "len") (rLenQ K) := by subst hK; exact call_len_seq
def rListQ (K : PySem.W.Frag) : List V → Hp → VK → Prop := fun xs H Q => ∃ p ys, xs = [.ref p] ∧ (SqL K H p ys ∨ SqT K H p ys) ∧ ∀ l, H l = none → Q (.ref l) (upd H l (.lst ys))
theorem call_list_ofK (hK : X.K = K := by rfl) : CallR X (.type "list") (rListQ K) := by subst hK; exact call_list_of
def rTupQ (K : PySem.W.Frag) : List V → Hp → VK → Prop := fun xs H Q => ∃ p ys, xs = [.ref p] ∧ ((SqL K H p ys ∧ ∀ l, H l = none → Q (.ref l) (upd H l (.tup ys))) ∨ (SqT K H p ys ∧ Q (.ref p) H))
theorem call_tuple_ofK (hK : X.K = K := by rfl) : CallR X (.type "tuple") (rTupQ K) := by subst hK; exact call_tuple_of
theorem cr_sumK (hc : X.calm = true) (hK : X.K = K := by rfl) : CallR X (.builtin "sum") (rSum K) := by subst hK; exact cr_sum hc
theorem cr_allK (hc : X.calm = true) (hK : X.K = K := by rfl) : CallR X (.builtin "all") (rAll K) := by subst hK; exact cr_all hc
theorem cr_anyK (hc : X.calm = true) (hK : X.K = K := by rfl) : CallR X (.builtin "any") (rAny K) := by subst hK; exact cr_any hc
theorem call_isiK' (hK : X.K = K := by rfl) : CallR X (.builtin "isinstance") (rIsi K) := by subst hK; exact call_isi
theorem call_isiTK (hK : X.K = K := by rfl) : CallR X (.builtin "isinstance") (rIsiT K) := by subst hK; exact call_isiT
theorem cr_sortedIK (hK : X.K = K := by rfl) : CallR X (.builtin "sorted") (rSortedI K) := by subst hK; exact cr_sortedI
end
end PK

set_option Elab.async false
set_option linter.all false
set_option maxRecDepth 100000
/-! Loops and comprehensions, by a word of the turn; the law's dict made. -/
namespace PK
open PySem L2
section
variable {K : PySem.W.Frag} {σ : L2.St} {H : Hp} {Q : VK} {D : Ends} {J : It} {g : TG} {tb : TS} {wi : TI} {tt : TT} {te : TE} {vs : List Nat} {n : Nat} {G : Hp → Prop} {Y : Nat → Hp → V → Hp → Prop}
/-- a for over J, said once -/
def Lp (J : It) (g : TG) (tb : TS) (D : Ends) (σ : L2.St) (H : Hp) : Prop := ∃ W : Nat → Nat → L2.St → Hp → Prop, (∃ m, W 0 m σ H) ∧ ∀ i m σ H, W i m σ H →
  (J.stop i H ∧ D.nx σ H) ∨ (J.go i H ∧ ∃ N : L2.St → Hp → Prop, (∀ σ' H', N σ' H' → ∃ m', m' < m ∧ W (i + 1) m' σ' H') ∧ ∀ x H', J.yld i H x H' → g x σ H' fun σ2 H2 => tb { D with nx := N, ct := N, bk := D.nx } σ2 H2)
theorem w_for (k : wi σ H fun J H1 => Lp J g tb D σ H1) : tFor wi g tb D σ H := k
theorem lp_it (w : Walk J n G Y) (Pv : Nat → L2.St → Hp → Prop) (h0 : Pv 0 σ H) (hG : ∀ i σ H, i ≤ n → Pv i σ H → G H)
    (hs : ∀ i x σ H H', i < n → Pv i σ H → Y i H x H' → g x σ H' fun σ2 H2 => tb { D with nx := Pv (i + 1), ct := Pv (i + 1), bk := D.nx } σ2 H2) (hd : ∀ σ H, Pv n σ H → D.nx σ H) : Lp J g tb D σ H := for_it w Pv h0 hG hs hd
theorem lp_range {lo : Int} (Pv : Nat → L2.St → Hp → Prop) (h0 : Pv 0 σ H)
    (hs : ∀ i σ H, i < n → Pv i σ H → g (.int (lo + i)) σ H fun σ2 H2 => tb { D with nx := Pv (i + 1), ct := Pv (i + 1), bk := D.nx } σ2 H2) (hd : ∀ σ H, Pv n σ H → D.nx σ H) : Lp (Itr lo n) g tb D σ H := for_range Pv h0 hs hd
theorem lp_list {a : Addr} {xs : List V} (Pv : Nat → L2.St → Hp → Prop) (h0 : Pv 0 σ H) (hl : ∀ i σ H, i ≤ xs.length → Pv i σ H → SqL K H a xs)
    (hs : ∀ i x σ H, xs[i]? = some x → Pv i σ H → g x σ H fun σ2 H2 => tb { D with nx := Pv (i + 1), ct := Pv (i + 1), bk := D.nx } σ2 H2) (hd : ∀ σ H, Pv xs.length σ H → D.nx σ H) : Lp (Itl K a) g tb D σ H := for_list Pv h0 hl hs hd
theorem lp_tup {a : Addr} {xs : List V} (Pv : Nat → L2.St → Hp → Prop) (h0 : Pv 0 σ H) (hl : ∀ i σ H, i ≤ xs.length → Pv i σ H → SqT K H a xs)
    (hs : ∀ i x σ H, xs[i]? = some x → Pv i σ H → g x σ H fun σ2 H2 => tb { D with nx := Pv (i + 1), ct := Pv (i + 1), bk := D.nx } σ2 H2) (hd : ∀ σ H, Pv xs.length σ H → D.nx σ H) : Lp (Itt K a) g tb D σ H := for_tup Pv h0 hl hs hd
/-- a comprehension over J, said once -/
def Lc (J : It) (g : TG) (tt : TT) (te : TE) (vs : List Nat) (σ : L2.St) (H1 : Hp) (Q : VK) : Prop := ∀ D, H1 D = none → ∃ W : Nat → Nat → Hp → Prop, (∃ m, W 0 m (upd H1 D (.lst []))) ∧ ∀ i m H, W i m H →
  (J.stop i H ∧ Q (.ref D) H) ∨ (J.go i H ∧ ∃ Nx : Hp → Prop, (∀ H', Nx H' → ∃ m', m' < m ∧ W (i + 1) m' H') ∧ ∀ x H', J.yld i H x H' → g x (wipe σ vs) H' fun σ2 H2 => wipe σ2 vs = wipe σ vs ∧ tt σ2 H2 fun b H3 =>
    if b = true then te σ2 H3 fun y H4 => ∃ acc, H4 D = some (.lst acc) ∧ acc.length < sizeLine ∧ Nx (upd H4 D (.lst (acc ++ [y]))) else Nx H3)
theorem w_lc (k : wi σ H fun J H1 => Lc J g tt te vs σ H1 Q) : tLc wi g tt te vs σ H Q := k
/-- R: by the new list's address, the turn, what it holds, the heap -/
def LcW (R : Addr → Nat → List V → Hp → Prop) (D : Addr) (i : Nat) (H : Hp) : Prop := ∃ acc, H D = some (.lst acc) ∧ acc.length ≤ i ∧ R D i acc H
def LcY (R : Addr → Nat → List V → Hp → Prop) (D : Addr) (i : Nat) (y : V) (H : Hp) : Prop := ∃ acc, H D = some (.lst acc) ∧ acc.length < sizeLine ∧ LcW R D (i + 1) (upd H D (.lst (acc ++ [y])))
theorem lc_yes {R : Addr → Nat → List V → Hp → Prop} {D : Addr} {i : Nat} {y : V} {acc : List V} {H : Hp} (h : H D = some (.lst acc)) (l : acc.length ≤ i) (hi : i < 100000) (r : R D (i + 1) (acc ++ [y]) (upd H D (.lst (acc ++ [y])))) : LcY R D i y H :=
  ⟨acc, h, Nat.lt_of_le_of_lt l (Nat.lt_of_lt_of_le hi (by decide)), acc ++ [y], upd_same, by rw [List.length_append, List.length_singleton]; omega, r⟩
theorem lc_no {R : Addr → Nat → List V → Hp → Prop} {D : Addr} {i : Nat} {acc : List V} {H : Hp} (h : H D = some (.lst acc)) (l : acc.length ≤ i) (r : R D (i + 1) acc H) : LcW R D (i + 1) H := ⟨acc, h, by omega, r⟩
theorem lc_go (w : Walk J n G Y) (R : Addr → Nat → List V → Hp → Prop) (h0 : ∀ D, H D = none → R D 0 [] (upd H D (.lst []))) (hG : ∀ D i acc H', i ≤ n → R D i acc H' → G H')
    (hs : ∀ D i acc x H' H2, H D = none → i < n → H' D = some (.lst acc) → acc.length ≤ i → R D i acc H' → Y i H' x H2 → g x (wipe σ vs) H2 fun σ2 H3 => wipe σ2 vs = wipe σ vs ∧ tt σ2 H3 fun b H4 =>
      if b = true then te σ2 H4 fun y H5 => LcY R D i y H5 else LcW R D (i + 1) H4)
    (hd : ∀ D acc H', H D = none → H' D = some (.lst acc) → acc.length ≤ n → R D n acc H' → Q (.ref D) H') : Lc J g tt te vs σ H Q := fun D hD =>
  lc_it w (fun i H' => LcW R D i H') ⟨[], upd_same, Nat.le_refl _, h0 D hD⟩ (fun i H' hi ⟨acc, _, _, r⟩ => hG D i acc H' hi r)
    (fun i x H' H2 hi ⟨acc, e, l, r⟩ y => hs D i acc x H' H2 hD hi e l r y) fun H' ⟨acc, e, l, r⟩ => hd D acc H' hD e l r
theorem w_rng1 {ta : TA} {R : It → Hp → Prop} (k : ta σ H fun vs H1 => ∃ j : Int, vs = [.int j] ∧ -(2 ^ 62) ≤ j ∧ j < 2 ^ 62 ∧ R (Itr 0 j.toNat) H1) : iRng1 ta σ H R := k
theorem w_itL {tl : TE} {R : It → Hp → Prop} (k : tl σ H fun x H1 => ∃ a, x = .ref a ∧ (∃ xs, SqL K H1 a xs) ∧ R (Itl K a) H1) : iList K tl σ H R := k
theorem w_itT {tl : TE} {R : It → Hp → Prop} (k : tl σ H fun x H1 => ∃ a, x = .ref a ∧ (∃ xs, SqT K H1 a xs) ∧ R (Itt K a) H1) : iTup K tl σ H R := k
theorem w_itS {te : TE} {R : It → Hp → Prop} (k : te σ H fun v H1 => ∃ x, v = .str x ∧ R (Its x) H1) : iStr te σ H R := k
theorem w_len {p : Addr} {xs : List V} (h : H p = some (.lst xs)) (k : Q (.int xs.length) H) : rLenQ K [.ref p] H Q := ⟨p, xs, rfl, .inl (SqL.of h), k⟩
theorem w_lenT {p : Addr} {xs : List V} (h : H p = some (.tup xs)) (k : Q (.int xs.length) H) : rLenQ K [.ref p] H Q := ⟨p, xs, rfl, .inr (SqT.of h), k⟩
theorem w_exR {P : Addr → Prop} {a : Addr} (k : P a) : ∃ b, V.ref a = .ref b ∧ P b := ⟨a, rfl, k⟩
/-- {'seats': {}, 'copies': [], 'many': 0} -/
theorem w_wdict (k : ∀ (w sd cl : Addr) (H' : Hp), H w = none → H sd = none → H cl = none → Gr [] H H' → WAt H' w sd cl .nil 0 → Q (.ref w) H') :
    tDisp [(tC (.str "seats"), tDNewK), (tC (.str "copies"), tLst tNil), (tC (.str "many"), tC (.int 0))] σ H Q := by
  intro w nw
  show ∀ sd, (upd H w (.dK [])) sd = none → _
  intro sd ns
  show 0 ≤ sizeLine ∧ ∀ cl, (upd (upd H w (.dK [])) sd (.dK [])) cl = none → _
  refine ⟨Nat.zero_le _, fun cl nc => ?_⟩
  have e1 : sd ≠ w := fun e => by rw [e, upd_same] at ns; cases ns
  have e2 : cl ≠ sd := fun e => by rw [e, upd_same] at nc; cases nc
  have e3 : cl ≠ w := fun e => by rw [e, upd_ne e1.symm, upd_same] at nc; cases nc
  have ns0 : H sd = none := by rw [upd_ne e1] at ns; exact ns
  have nc0 : H cl = none := by rw [upd_ne e2, upd_ne e3] at nc; exact nc
  refine ⟨by rw [upd_ne e3.symm, upd_ne e1.symm, upd_same], wK sd cl 0, rfl, by show 3 ≤ 15; decide, ?_⟩
  rw [wK_merge]
  refine k w sd cl _ nw ns0 nc0 ?_ ⟨upd_same, ⟨[], [], ?_, rfl, .nil, Nat.le_refl _, fun r => by simp [WS.nil], fun r => rfl⟩, ?_, Nat.le_refl _⟩
  · refine Gr.of_ex fun a o h => ?_
    have a1 : a ≠ w := ne_of_none h nw
    have a2 : a ≠ sd := ne_of_none h ns0
    have a3 : a ≠ cl := ne_of_none h nc0
    rw [upd_ne a1, upd_ne a3, upd_ne a2, upd_ne a1]
    exact h
  · rw [upd_ne e1, upd_ne e2.symm, upd_same]
  · rw [upd_ne e3, upd_same]
    rfl
theorem w_disp {trs : List (TE × TE)} (k : tDisp trs σ H Q) : tDisp trs σ H Q := k
end
/-! ### lists of flat tuples -/
def IsTp (H : Hp) (v : V) (xs : List V) : Prop := ∃ a, v = .ref a ∧ H a = some (.tup xs)
abbrev Tps (H : Hp) : List V → List (List V) → Prop := Paired (IsTp H)
theorem IsTp.gr {H H' : Hp} {M : List Addr} {v : V} {xs : List V} (h : IsTp H v xs) (g : Gr M H H') : IsTp H' v xs := by
  obtain ⟨a, q, h⟩ := h
  exact ⟨a, q, g.tup a _ h⟩
theorem Tps.gr {H H' : Hp} {M : List Addr} {xs : List V} {ys : List (List V)} (h : Tps H xs ys) (g : Gr M H H') : Tps H' xs ys := Paired.mono (fun _ _ q => q.gr g) h
/-- a plain value as data -/
def atomD : V → PyData
  | .bl b => .bool b
  | .int i => .int i
  | .str x => .str x
  | _ => .none
def Atom : V → Prop
  | .non => True
  | .bl _ => True
  | .int _ => True
  | .str x => PyData.strOk x = true
  | _ => False
theorem Atom.dp {K : PySem.W.Frag} {H : Hp} : ∀ {x : V}, Atom x → Dp K H x (atomD x)
  | .non, _ => .non
  | .bl b, _ => .bl b
  | .int i, _ => .int i
  | .str x, _ => .str x
theorem Atom.sh {n : Nat} : ∀ {x : V}, Atom x → Sh (atomD x) n
  | .non, _ => .none
  | .bl b, _ => ⟨by simp [atomD, PyData.canLay0], by simp [atomD, PyData.depth]⟩
  | .int i, _ => .int
  | .str x, h => .str h
theorem atoms_dp {K : PySem.W.Frag} {H : Hp} : ∀ {xs : List V}, (∀ x ∈ xs, Atom x) → DpAll K H xs (xs.map atomD)
  | [], _ => .nil
  | x :: xs, h => .cons (h x (by simp)).dp (atoms_dp fun y hy => h y (by simp [hy]))
theorem atoms_sh {n : Nat} : ∀ {xs : List V}, (∀ x ∈ xs, Atom x) → ShA (xs.map atomD) n
  | [], _ => .nil
  | x :: xs, h => .cons (h x (by simp)).sh (atoms_sh fun y hy => h y (by simp [hy]))
def tpD (xs : List V) : PyData := .tuple (xs.map atomD)
theorem tps_dp {K : PySem.W.Frag} {H : Hp} : ∀ {vs : List V} {ys : List (List V)}, Tps H vs ys → (∀ y ∈ ys, ∀ x ∈ y, Atom x) → DpAll K H vs (ys.map tpD)
  | _, _, .nil, _ => .nil
  | _, _, .cons ⟨a, e, h⟩ t, f => by
    subst e
    exact .cons (.tup (SqT.of h) (atoms_dp (f _ (by simp)))) (tps_dp t fun y hy => f y (by simp [hy]))
theorem tps_sh {n : Nat} : ∀ {ys : List (List V)}, (∀ y ∈ ys, ∀ x ∈ y, Atom x) → ShA (ys.map tpD) (n + 1)
  | [], _ => .nil
  | y :: ys, f => .cons (atoms_sh (n := n) (f y (by simp))).tuple (tps_sh fun z hz => f z (by simp [hz]))
/-! ### the entries of a row of events -/
def Ev.kok : Ev → Prop
  | .put k _ => KeyOk k
  | .drop k => KeyOk k
  | _ => True
theorem Ev.ok_kok {e : Ev} (h : e.ok) : e.kok := by cases e <;> first | exact h.1 | exact h | trivial
def Ev.row (i : Nat) : Ev → List (List V)
  | .put k v => [[.int (i : Nat), .str k, .int v]]
  | .drop k => [[.int (i : Nat), .str k, .non]]
  | _ => []
def rowsV : Nat → List Ev → List (List V)
  | _, [] => []
  | i, e :: es => e.row i ++ rowsV (i + 1) es
theorem rowsV_append : ∀ (a b : List Ev) (i : Nat), rowsV i (a ++ b) = rowsV i a ++ rowsV (i + a.length) b
  | [], _, _ => rfl
  | e :: a, b, i => by
    show e.row i ++ rowsV (i + 1) (a ++ b) = (e.row i ++ rowsV (i + 1) a) ++ rowsV (i + (a.length + 1)) b
    rw [rowsV_append a b (i + 1), List.append_assoc]
    have z : i + 1 + a.length = i + (a.length + 1) := by omega
    rw [z]
theorem rowsV_take {es : List Ev} {i : Nat} {e : Ev} (he : es[i]? = some e) : rowsV 0 (es.take (i + 1)) = rowsV 0 (es.take i) ++ e.row i := by
  have hi : i < es.length := (List.getElem?_eq_some_iff.mp he).1
  rw [take_snoc he, rowsV_append, List.length_take, Nat.min_eq_left (Nat.le_of_lt hi), Nat.zero_add]
  show _ ++ (e.row i ++ []) = _
  rw [List.append_nil]
theorem rowsV_len : ∀ (es : List Ev) (i : Nat), (rowsV i es).length ≤ es.length
  | [], _ => Nat.le_refl _
  | e :: es, i => by
    show (e.row i ++ rowsV (i + 1) es).length ≤ es.length + 1
    have h := rowsV_len es (i + 1)
    have h1 : (e.row i).length ≤ 1 := by cases e <;> simp [Ev.row]
    rw [List.length_append]
    omega
theorem keyOk_str {k : Str} (h : KeyOk k) : PyData.strOk k = true := by
  rcases h with h | h | h | h <;> subst h <;> decide +kernel
theorem rowsV_atom : ∀ {es : List Ev} {i : Nat}, (∀ e ∈ es, e.kok) → ∀ y ∈ rowsV i es, ∀ x ∈ y, Atom x
  | [], _, _, y, hy => by cases hy
  | e :: es, i, h, y, hy => by
    have hy : y ∈ e.row i ++ rowsV (i + 1) es := hy
    rcases List.mem_append.mp hy with z | z
    · have hk := h e (by simp)
      cases e with
      | put k v =>
        rw [show y = [.int (i : Nat), .str k, .int v] from List.mem_singleton.mp z]
        intro x hx
        simp only [List.mem_cons, List.not_mem_nil, or_false] at hx
        rcases hx with q | q | q <;> subst q
        · trivial
        · exact keyOk_str hk
        · trivial
      | drop k =>
        rw [show y = [.int (i : Nat), .str k, .non] from List.mem_singleton.mp z]
        intro x hx
        simp only [List.mem_cons, List.not_mem_nil, or_false] at hx
        rcases hx with q | q | q <;> subst q
        · trivial
        · exact keyOk_str hk
        · trivial
      | join r => cases z
      | read r u => cases z
      | save r => cases z
      | load r c => cases z
      | wait => cases z
    · exact rowsV_atom (fun e he => h e (by simp [he])) y z
/-! ### what holds of where readers are, along a row of events -/
structure Gd (st : WS) (n : Nat) : Prop where
  m0 : 0 ≤ st.many
  m1 : st.many ≤ n
  s : ∀ r p, st.seats r = some p → 0 ≤ p
  c : ∀ p ∈ st.copies, 0 ≤ p
  k : ∀ r p, st.seats r = some p → 0 ≤ r ∧ r < 4
theorem Gd.nil : Gd .nil 0 := ⟨Int.le_refl _, Int.le_refl _, (fun r p h => by cases h), (fun p h => by cases h), (fun r p h => by cases h)⟩
theorem Gd.mono {st : WS} {n m : Nat} (g : Gd st n) (l : n ≤ m) : Gd st m := ⟨g.m0, by have := g.m1; omega, g.s, g.c, g.k⟩
theorem Gd.seat {st : WS} {n : Nat} (g : Gd st n) (r p : Int) (h : 0 ≤ p) (hr : 0 ≤ r ∧ r < 4) : Gd (st.seat r p) (n + 1) := ⟨g.m0, by have := g.m1; show st.many ≤ _; omega, (fun i q e => by
  have e : (if i = r then some p else st.seats i) = some q := e
  split at e
  · cases e; exact h
  · exact g.s i q e), g.c, (fun i q e => by
  have e : (if i = r then some p else st.seats i) = some q := e
  split at e
  · rename_i z
    rw [z]
    exact hr
  · exact g.k i q e)⟩
theorem Gd.step {st : WS} {n : Nat} {e : Ev} (g : Gd st n) (h : e.ok) : Gd (st.step e) (n + 1) := by
  have m0 := g.m0
  have m1 := g.m1
  cases e with
  | put k v => exact ⟨by show 0 ≤ st.many + 1; omega, by show st.many + 1 ≤ _; omega, g.s, g.c, g.k⟩
  | drop k => exact ⟨by show 0 ≤ st.many + 1; omega, by show st.many + 1 ≤ _; omega, g.s, g.c, g.k⟩
  | join r => exact g.seat r 0 (Int.le_refl _) h
  | read r u => exact g.seat r u (Int.le_of_lt h.2) h.1
  | save r =>
    refine ⟨m0, by show st.many ≤ _; omega, g.s, fun p hp => ?_, g.k⟩
    have hp : p ∈ st.copies ++ [(st.seats r).getD 0] := hp
    rcases List.mem_append.mp hp with q | q
    · exact g.c p q
    · rw [List.mem_singleton] at q
      rw [q]
      cases z : st.seats r with
      | none => exact Int.le_refl _
      | some y => exact g.s r y z
  | load r c =>
    refine g.seat r _ ?_ h.1
    rw [List.getD_eq_getElem?_getD]
    cases z : st.copies[c.toNat]? with
    | none => exact Int.le_refl _
    | some y => exact g.c y (List.mem_of_getElem? z)
  | wait => exact g.mono (Nat.le_succ _)
theorem Gd.run {st : WS} : ∀ {n : Nat} {es : List Ev}, Gd st n → (∀ e ∈ es, e.ok) → Gd (st.run es) (n + es.length) := by
  intro n es
  induction es generalizing st n with
  | nil => intro g _; exact g
  | cons e es ih =>
    intro g h
    have q := ih (st := st.step e) (n := n + 1) (g.step (h e (by simp))) fun x hx => h x (by simp [hx])
    have e1 : n + (e :: es).length = n + 1 + es.length := by rw [List.length_cons]; omega
    rw [e1]
    exact q
theorem valid_reads : ∀ {rs : List Int} {st : WS}, rs.Nodup → (∀ r ∈ rs, ∃ p, st.seats r = some p ∧ p < st.many) → Valid st (rs.map fun r => Ev.read r st.many)
  | [], _, _, _ => True.intro
  | r :: rs, st, hn, h => by
    obtain ⟨p, hp, hlt⟩ := h r (by simp)
    obtain ⟨n1, n2⟩ := List.nodup_cons.mp hn
    refine ⟨⟨p, hp, hlt, Int.le_refl _⟩, ?_⟩
    refine valid_reads (st := st.step (.read r st.many)) n2 fun s hs => ?_
    obtain ⟨p', hp', hlt'⟩ := h s (by simp [hs])
    refine ⟨p', ?_, hlt'⟩
    show (if s = r then some st.many else st.seats s) = some p'
    rw [if_neg (show ¬ s = r from fun e => n1 (by rw [← e]; exact hs))]
    exact hp'
/-! ### lots: lists of puts and drops in a list -/
def Ev.ent : Ev → Prop
  | .put k v => KeyOk k ∧ 0 ≤ v ∧ v < 9
  | .drop k => KeyOk k
  | _ => False
theorem Ev.ent_ok {e : Ev} (h : e.ent) : e.ok := by cases e <;> first | exact h | exact h.elim
theorem Ev.ent_kok {e : Ev} (h : e.ent) : e.kok := Ev.ok_kok (Ev.ent_ok h)
theorem Ev.ent_fits {e : Ev} {st : WS} (h : e.ent) : st.fits e := by cases e <;> first | trivial | exact h.elim
def RowAt (H : Hp) (r : Addr) (es : List Ev) : Prop := ∃ xs, H r = some (.lst xs) ∧ Evs H xs es
structure LotsAt (H : Hp) (l : Addr) (rs : List Addr) (ess : List (List Ev)) : Prop where
  nd : rs.Nodup
  r : Paired (RowAt H) rs ess
  nl : l ∉ rs
  en : ∀ es ∈ ess, ∀ e ∈ es, e.ent
  l : H l = some (.lst (rs.map V.ref))
theorem RowAt.keep {H H' : Hp} {r : Addr} {es : List Ev} {M : List Addr} (h : RowAt H r es) (g : Gr M H H') (n : r ∉ M) : RowAt H' r es := by
  obtain ⟨xs, h1, h2⟩ := h
  exact ⟨xs, g.keep _ _ n h1, h2.gr g⟩
theorem rows_keep {H H' : Hp} {M : List Addr} (g : Gr M H H') : ∀ {rs : List Addr} {ess : List (List Ev)}, Paired (RowAt H) rs ess → (∀ r ∈ rs, r ∉ M) → Paired (RowAt H') rs ess
  | _, _, .nil, _ => .nil
  | _, _, .cons h t, n => .cons (h.keep g (n _ (by simp))) (rows_keep g t fun r hr => n r (by simp [hr]))
theorem LotsAt.keep {H H' : Hp} {l : Addr} {rs : List Addr} {ess : List (List Ev)} {M : List Addr} (h : LotsAt H l rs ess) (g : Gr M H H') (n1 : l ∉ M) (n2 : ∀ r ∈ rs, r ∉ M) : LotsAt H' l rs ess :=
  ⟨h.nd, rows_keep g h.r n2, h.nl, h.en, g.keep _ _ n1 h.l⟩
def total (ess : List (List Ev)) : Nat := (ess.map List.length).sum
theorem total_append (a b : List (List Ev)) : total (a ++ b) = total a + total b := by unfold total; rw [List.map_append, List.sum_append]
/-- the ints of a list of lengths -/
theorem sum_ints : ∀ ess : List (List Ev), ((ess.map fun es => ((es.length : Nat) : Int)).sum) = ((total ess : Nat) : Int)
  | [] => rfl
  | es :: r => by
    have ih := sum_ints r
    unfold total at *
    simp only [List.map_cons, List.sum_cons]
    rw [ih]
    omega
theorem mem_of_pr {α β : Type} {F : α → β → Prop} : ∀ {a : List α} {b : List β} {x : α}, Paired F a b → x ∈ a → ∃ y ∈ b, F x y
  | _, _, _, .nil, h => by cases h
  | _, _, x, .cons h t, hx => by
    rcases List.mem_cons.mp hx with z | z
    · subst z; exact ⟨_, by simp, h⟩
    · obtain ⟨y, hy, f⟩ := mem_of_pr t z
      exact ⟨y, by simp [hy], f⟩
theorem run_join {p : Int} : ∀ {s : WS} {es : List Ev}, Ev.join p ∈ es → ((s.run es).seats p).isSome = true
  | s, [], h => by cases h
  | s, e :: es, h => by
    rcases List.mem_cons.mp h with z | z
    · subst z
      refine run_some (s := s.step (.join p)) (es := es) ?_
      show (if p = p then some (0 : Int) else s.seats p).isSome = true
      rw [if_pos rfl]
      rfl
    · exact run_join (s := s.step e) z
theorem valid_triv : ∀ {s : WS} {es : List Ev}, (∀ e ∈ es, ∀ s : WS, s.fits e) → Valid s es
  | _, [], _ => True.intro
  | s, e :: es, h => ⟨h e (by simp) s, valid_triv fun x hx => h x (by simp [hx])⟩
/-- events as data -/
def evD (e : Ev) : PyData := tpD e.vs
theorem ev_atom {e : Ev} (h : e.kok) : ∀ x ∈ e.vs, Atom x := by
  intro x hx
  cases e <;> simp only [Ev.vs, List.mem_cons, List.not_mem_nil, or_false] at hx
  · rcases hx with q | q | q <;> subst q
    · show PyData.strOk "put" = true; decide +kernel
    · exact keyOk_str h
    · trivial
  · rcases hx with q | q <;> subst q
    · show PyData.strOk "drop" = true; decide +kernel
    · exact keyOk_str h
  · rcases hx with q | q <;> subst q
    · show PyData.strOk "join" = true; decide +kernel
    · trivial
  · rcases hx with q | q | q <;> subst q
    · show PyData.strOk "read" = true; decide +kernel
    · trivial
    · trivial
  · rcases hx with q | q <;> subst q
    · show PyData.strOk "save" = true; decide +kernel
    · trivial
  · rcases hx with q | q | q <;> subst q
    · show PyData.strOk "load" = true; decide +kernel
    · trivial
    · trivial
  · subst hx
    show PyData.strOk "wait" = true
    decide +kernel
theorem evs_dp {K : PySem.W.Frag} {H : Hp} : ∀ {xs : List V} {es : List Ev}, Evs H xs es → (∀ e ∈ es, e.kok) → DpAll K H xs (es.map evD)
  | _, _, .nil, _ => .nil
  | _, _, .cons ⟨a, e, h⟩ t, f => by
    subst e
    exact .cons (.tup (SqT.of h) (atoms_dp (ev_atom (f _ (by simp))))) (evs_dp t fun y hy => f y (by simp [hy]))
theorem evs_sh {n : Nat} : ∀ {es : List Ev}, (∀ e ∈ es, e.kok) → ShA (es.map evD) (n + 1)
  | [], _ => .nil
  | e :: es, f => .cons (atoms_sh (n := n) (ev_atom (f e (by simp)))).tuple (evs_sh fun z hz => f z (by simp [hz]))
theorem lots_dp {K : PySem.W.Frag} {H : Hp} : ∀ {rs : List Addr} {ess : List (List Ev)}, Paired (RowAt H) rs ess → (∀ es ∈ ess, ∀ e ∈ es, e.ent) → DpAll K H (rs.map V.ref) (ess.map fun es => PyData.list (es.map evD))
  | _, _, .nil, _ => .nil
  | _, _, .cons ⟨xs, h, he⟩ t, f => .cons (.lst (SqL.of h) (evs_dp he fun e q => Ev.ent_kok (f _ (by simp) e q))) (lots_dp t fun es q => f es (by simp [q]))
theorem lots_sh : ∀ {ess : List (List Ev)}, (∀ es ∈ ess, ∀ e ∈ es, e.ent) → ShA (ess.map fun es => PyData.list (es.map evD)) 2
  | [], _ => .nil
  | es :: ess, f => .cons (evs_sh (n := 0) fun e q => Ev.ent_kok (f es (by simp) e q)).list (lots_sh fun z q => f z (by simp [q]))
/-! ### other numbers of readers -/
def farR (r : Int) : Int := ([9, 10, 100, 1] : List Int).getD r.toNat 0
def Ev.far : Ev → Ev
  | .join r => .join (farR r)
  | .read r u => .read (farR r) u
  | .save r => .save (farR r)
  | .load r c => .load (farR r) c
  | e => e
theorem Ev.far_kok {e : Ev} (h : e.kok) : e.far.kok := by cases e <;> exact h
end PK

set_option Elab.async false
set_option linter.all false
set_option maxRecDepth 100000
/-! What is walked, list or tuple alike: a plain for, enumerate. -/
namespace PK
open PySem PySem.Spec PyProof.Rows L2

/-! ### one rule or another -/
theorem pi_alt {X : Cx} {tg e : Expr} {w1 w2 : TI} (h1 : PI X tg e w1) (h2 : PI X tg e w2) : PI X tg e (fun σ H R => w1 σ H R ∨ w2 σ H R) :=
  ⟨fun pins s σ H R I h => h.elim (h1.run pins s σ H R I) (h2.run pins s σ H R I)⟩
theorem pe_alt {X : Cx} {e : Expr} {t1 t2 : TE} (h1 : PE X e t1) (h2 : PE X e t2) : PE X e (fun σ H Q => t1 σ H Q ∨ t2 σ H Q) :=
  ⟨fun pins s σ H Q I h => h.elim (h1.run pins s σ H Q I) (h2.run pins s σ H Q I)⟩
def iSeq (K : PySem.W.Frag) (tl : TE) : TI := fun σ H R => iList K tl σ H R ∨ iTup K tl σ H R
theorem pi_seq {X : Cx} {tg l : Expr} {tl : TE} (hl : PE X l tl) : PI X tg l (iSeq X.K tl) := pi_alt (pi_list hl) (pi_tup hl)

/-! ### enumerate over a tuple -/
def IteT (K : PySem.W.Frag) (a : Addr) : It where
  go := fun i H => ∃ (xs : List V) (x : V), SqT K H a xs ∧ xs[i]? = some x
  yld := fun i H v H' => ∃ T x, v = .ref T ∧ H T = none ∧ H' = upd H T (.tup [.int (i : Nat), x]) ∧ ∀ xs, SqT K H a xs → xs[i]? = some x
  stop := fun i H => ∃ xs : List V, SqT K H a xs ∧ xs.length = i
def EnT (a e it : Addr) (i : Nat) (h : Heap) : Prop := (∃ old, IsEnum h e it ((i : Nat) : Int) old) ∧ h.IsTupleIter it a i ∧ e ≠ it ∧ e ≠ a ∧ a ≠ it
theorem turn_enT {P : Program} {w : World} {K : PySem.W.Frag} {elts : List Expr} {kk : Nat} {tpos : Pos} (a e it : Addr) : Turn P w K (.Tuple elts kk tpos) (IteT K a) [e, it] e (EnT a e it) where
  mem := List.mem_cons_self
  obj := by
    rintro i h ⟨⟨old, he⟩, ⟨o, ho, hc, hd⟩, _⟩ b hb
    rcases List.mem_cons.mp hb with z | z
    · subst z
      exact ⟨_, he, fun v q => by cases q⟩
    · rw [List.mem_singleton] at z
      subst z
      exact ⟨o, ho, fun v q => by rw [hd] at q; cases q⟩
  keep := by
    rintro i h h' ⟨⟨old, he⟩, hi, r⟩ k
    exact ⟨⟨old, k e List.mem_cons_self _ he⟩, hi.at fun o q => k it (by simp) o q, r⟩
  item := by
    rintro X rfl rfl rfl hc i pins s σ H E I hf ⟨⟨old, he⟩, hit, n1, n2, n3⟩ ⟨xs, x, hq, hx⟩
    obtain ⟨its, rv, p, hz⟩ := I.tuple hq
    obtain ⟨u, hu, ru⟩ := rv.get hx
    have le1 : e < s.heap.objs.size := Heap.lt_size he
    have le2 : it < s.heap.objs.size := hit.elim fun o q => Heap.lt_size q.1
    have hti : its.toArray[i]? = some u := by simpa using hu
    have hlt : i < its.toArray.size := (Array.getElem?_eq_some_iff.mp hti).1
    refine wpAny_pyNext_enum_itemD (Draws.tuple (prog := X.prog) (w := X.w) (A := X.A.in1) (I.ok.hd hc) it a n3 its.toArray) he ⟨hit, p⟩ hlt n1 (by simp [n1, n2]) fun y h1 tk hP ho hs hT hsz hk => ?_
    have ey : y = u := by
      have hP : its.toArray[i]? = some y := hP
      rw [hti] at hP
      exact (Option.some.inj hP).symm
    subst ey
    refine ⟨_, rfl, wpAny_letOwnedTupleGo_enum (s := { s with heap := h1, toks := tk + 1 }) ho fun h2 he2 sb => ?_⟩
    have hT2 : h2.get? s.heap.objs.size = some { cls := .type "tuple", data := .seq #[.int i tk, y] } := (sb.2 _ (Nat.ne_of_gt le1)).trans hT
    have made : ObjOk X.prog X.w (upd H s.heap.objs.size (.tup [.int (i : Nat), x])) h2 s.heap.objs.size (.tup [.int (i : Nat), x]) :=
      ⟨Nat.le_trans (by decide : 2 ≤ 1000) (by decide), [.int i tk, y], .cons ⟨tk, rfl⟩ (.cons ru .nil), ⟨_, hT2, rfl, _, rfl⟩⟩
    have kept : ∀ b o, b ∉ [e, it] → s.heap.get? b = some o → h2.get? b = some o := fun b o nb q => by
      have b1 : b ≠ e := fun z => nb (by simp [z])
      have b2 : b ≠ it := fun z => nb (by simp [z])
      exact (sb.2 b b1).trans (hk b o b1 b2 q)
    refine ⟨.ref s.heap.objs.size, _, I.turnedNew (t' := tk + 1) (ch := [e, it]) kept hf (Nat.le_refl _) made, rfl, ⟨_, x, rfl, I.hok.fresh (Nat.le_refl _), rfl, fun ys hy => ?_⟩, ⟨⟨y, ?_⟩, hs.1.at fun o q => (sb.2 it n1.symm).trans q, n1, n2, n3⟩, fun b hb => ?_⟩
    · rw [I.tuple_inj hy hq]
      exact hx
    · have e1 : ((i + 1 : Nat) : Int) = (i : Int) + 1 := by omega
      rw [e1]
      exact he2
    · have lb : b < s.heap.objs.size := by
        rcases List.mem_cons.mp hb with z | z
        · rw [z]; exact le1
        · rw [List.mem_singleton] at z; rw [z]; exact le2
      rw [upd_ne (Nat.ne_of_lt lb)]
      exact (hf b hb).1
  done := by
    rintro X rfl rfl rfl hc i pins s σ H E I hf ⟨⟨old, he⟩, hit, n1, n2, n3⟩ ⟨xs, hq, hx⟩
    obtain ⟨its, rv, p, hz⟩ := I.tuple hq
    obtain ⟨f0, f1, f2, f3, f4, f5⟩ := hf it (by simp)
    have hl := rv.length
    have ei : i = its.toArray.size := by rw [List.size_toArray, ← hl, hx]
    subst ei
    exact wpAny_pyNext_enum_endD (Draws.tuple (prog := X.prog) (w := X.w) (A := X.A.in1) (I.ok.hd hc) it a n3 its.toArray) he ⟨hit, p⟩ fun h1 eb => ⟨rfl, I.turned (t' := s.toks) (fun b o hb q => eb b o hb q) f0 f1 f3 f4 f5⟩
  self := fun A i s Q E st h => st.1.elim fun old he => wpAny_pyIter_enum he h
theorem walk_enT {K : PySem.W.Frag} {a : Addr} {xs : List V} : Walk (IteT K a) xs.length (fun H => SqT K H a xs) (YPair (fun i => some (.int (i : Nat))) (fun i => xs[i]?)) where
  goes := fun i H hi h => ⟨xs, xs[i], h, List.getElem?_eq_getElem hi⟩
  stops := fun H h => ⟨xs, h, rfl⟩
  yields := by
    rintro i H v H' hi h ⟨T, x, e1, e2, e3, e4⟩
    exact ⟨T, _, x, e1, e2, e3, rfl, e4 xs h⟩
set_option maxHeartbeats 1000000 in
/-- enumerate(v): what it makes -/
theorem meets_enum_new {v : Value} {o : Obj} {F : Heap → Prop} (B : Begins v o F) : Meets (Builtin.«enumerate.__new__» ⟨[.type "enumerate", v], []⟩)
    (fun _ R s => F s.heap ∧ R (.ok (.ret (.ref (s.heap.push o).objs.size))) { s with heap := (s.heap.push o).push { cls := .type "enumerate", data := .fields #[.none, .bool false, .ref s.heap.objs.size, rawInt 0, .none, .none] } }) := by
  refine .of_wp fun prog w A R s h => ?_
  obtain ⟨hp, g, d, tk, os⟩ := s
  obtain ⟨h1, h⟩ := h
  have hsub := sub_enumerate
  have q1 : ∀ {A' : Around} {E : Value → Shared → Prop} {Q : Value → Shared → Prop}, Q (.ref hp.objs.size) ⟨hp.push o, g, d, tk, os⟩ → wpAny (model prog w) A' (pyIter v) Q E ⟨hp, g, d, tk, os⟩ := fun q => B.iter prog w _ _ ⟨hp, g, d, tk, os⟩ _ h1 q
  wp_walk
  refine wpAny_stack_any fun st => wpAny_pure ?_
  split
  · rename_i c _ _ _ _ _
    cases (c == Value.type "enumerate") <;> (wp_walk using q1; exact ⟨_, rfl, h⟩)
  · wp_walk using q1
    exact ⟨_, rfl, h⟩
theorem enum_tup {prog : Program} {w : World} {A : Around} {E : Value → Shared → Prop} {s : Shared} {a : Addr} {items : Array Value} {Q : Value → Shared → Prop} (ht : s.heap.IsTuple a items)
    (k : ∀ h', IsEnum h' (s.heap.objs.size + 1) s.heap.objs.size 0 .none → h'.IsTupleIter s.heap.objs.size a 0 → (∀ b o, s.heap.get? b = some o → h'.get? b = some o) → Q (.ref (s.heap.objs.size + 1)) { s with heap := h' }) :
    wpAny (model prog w) A (call (.type "enumerate") [.ref a]) Q E s := by
  refine callType_new F.called_enumerate (by decide) (F.typeCall_enumerate_1 _) (F.newCall_enumerate_1 _) (fun obj => F.args_object_init_2 obj _) F.entry_enumerate_new (meets_enum_new (begins_tuple a items)) ⟨ht, ?_⟩
  generalize ho : ({ cls := .type "tuple_iterator", data := .fields #[.ref a, .int 0 0] } : Obj) = o
  have nf : o.isFreed = false := by rw [← ho]; rfl
  have hz : (s.heap.push o).objs.size = s.heap.objs.size + 1 := Heap.size_push ..
  show _ ∧ _
  have he := Heap.get?_push_size (s.heap.push o) (o := { cls := .type "enumerate", data := .fields #[.none, .bool false, .ref s.heap.objs.size, rawInt 0, .none, .none] }) rfl
  have hi := Heap.get?_push_of_some ({ cls := .type "enumerate", data := .fields #[.none, .bool false, .ref s.heap.objs.size, rawInt 0, .none, .none] } : Obj) (Heap.get?_push_size s.heap nf)
  rw [hz] at he ⊢
  exact ⟨⟨_, he, rfl⟩, k _ he ⟨o, hi, by rw [← ho], by rw [← ho]; rfl⟩ fun b u q => Heap.get?_push_of_some _ (Heap.get?_push_of_some _ q)⟩
def iEnT (K : PySem.W.Frag) (ta : TA) : TI := fun σ H R => ta σ H fun vs H1 => ∃ a xs, vs = [.ref a] ∧ SqT K H1 a xs ∧ R (IteT K a) H1
theorem pi_enT {X : Cx} {e : Expr} {ta : TA} {p pos tpos : Pos} {elts : List Expr} {kk : Nat} (hg : Gl X "enumerate") (hm : X.mg "enumerate" = none) (ha : PA X [e] ta) (hs : starEach [e] X.env = [(false, eval e X.env)] := by rfl) : PI X (.Tuple elts kk tpos) (.Call (.Name "enumerate" p) [e] [] pos) (iEnT X.K ta) where
  run := fun pins s σ H R I h => by
    refine Call_ (ld_blt I hg hm boot_enumerate (callWith_type1 (thn (ha.run pos pins s σ H _ I h) fun us s1 hq => ?_) hs rfl))
    obtain ⟨vs, H1, I1, r1, a, xs, rfl, hq, q⟩ := hq
    cases r1 with
    | cons r rr =>
      cases rr
      cases r
      obtain ⟨its, rv, pt, hz⟩ := I1.tuple hq
      obtain ⟨o, ho, _⟩ := id pt
      have la : a < s1.heap.objs.size := Heap.lt_size ho
      refine enum_tup (show s1.heap.IsTuple a its.toArray from pt) fun h1 he hit hk => wpAny_pyIter_enum he ?_
      have I2 : Inv X pins σ H1 { s1 with heap := h1 } := I1.kept (t' := s1.toks) hk
      refine ⟨s1.heap.objs.size + 1, [s1.heap.objs.size + 1, s1.heap.objs.size], _, _, H1, rfl, I2, turn_enT a (s1.heap.objs.size + 1) s1.heap.objs.size, ⟨⟨.none, he⟩, hit, Nat.succ_ne_self _, Nat.ne_of_gt (Nat.lt_succ_of_lt la), Nat.ne_of_lt la⟩, fun b hb => ?_, q⟩
      have lb : s1.heap.objs.size ≤ b := by
        rcases List.mem_cons.mp hb with z | z
        · rw [z]; exact Nat.le_succ _
        · rw [List.mem_singleton] at z; rw [z]; exact Nat.le_refl _
      exact I1.fpOk lb (I1.hok.fresh lb)
def iEnS (K : PySem.W.Frag) (ta : TA) : TI := fun σ H R => iEnum K ta σ H R ∨ iEnT K ta σ H R
theorem pi_enS {X : Cx} {e : Expr} {ta : TA} {p pos tpos : Pos} {elts : List Expr} {kk : Nat} (hg : Gl X "enumerate") (hm : X.mg "enumerate" = none) (ha : PA X [e] ta) (hs : starEach [e] X.env = [(false, eval e X.env)] := by rfl) : PI X (.Tuple elts kk tpos) (.Call (.Name "enumerate" p) [e] [] pos) (iEnS X.K ta) := pi_alt (pi_enum hg hm ha hs) (pi_enT hg hm ha hs)
theorem w_enT {K : PySem.W.Frag} {ta : TA} {σ : L2.St} {H : Hp} {R : It → Hp → Prop} (k : ta σ H fun vs H1 => ∃ a xs, vs = [.ref a] ∧ SqT K H1 a xs ∧ R (IteT K a) H1) : iEnT K ta σ H R := k
end PK

set_option Elab.async false
set_option linter.all false
set_option maxRecDepth 100000
/-! Data in a heap that grows; what isinstance says of it; data compared with itself. -/
namespace PK
open PySem L2
section
variable {K : PySem.W.Frag} {H H' : Hp}
theorem sqL_gr {M : List Addr} (g : Gr M H H') {a : Addr} {xs : List V} (n : a ∉ M) (h : SqL K H a xs) : SqL K H' a xs := by
  rcases h with (h | ⟨o, h⟩) | h
  · exact .inl (.inl (g.keep _ _ n h))
  · exact .inl (.inr ⟨o, g.keep _ _ n h⟩)
  · exact .inr h
theorem sqT_gr (g : Gr [] H H') {a : Addr} {xs : List V} (h : SqT K H a xs) : SqT K H' a xs := by
  rcases h with (h | ⟨o, h⟩) | h
  · exact .inl (.inl (g.k0 h))
  · exact .inl (.inr ⟨o, g.k0 h⟩)
  · exact .inr h
mutual
theorem dp_gr (g : Gr [] H H') : ∀ (d : PyData) {v : V}, Dp K H v d → Dp K H' v d
  | .none, _, h => by cases h; exact .non
  | .bool b, _, h => by cases h; exact .bl b
  | .int i, _, h => by cases h; exact .int i
  | .str x, _, h => by cases h; exact .str x
  | .list ds, _, h => by
    cases h with
    | lst h t => exact .lst (sqL_gr g (by simp) h) (dpAll_gr g ds t)
  | .tuple ds, _, h => by
    cases h with
    | tup h t => exact .tup (sqT_gr g h) (dpAll_gr g ds t)
  | .dict _, _, h => by cases h
theorem dpAll_gr (g : Gr [] H H') : ∀ (ds : List PyData) {vs : List V}, DpAll K H vs ds → DpAll K H' vs ds
  | [], _, h => by cases h; exact .nil
  | d :: ds, _, h => by
    cases h with
    | cons h t => exact .cons (dp_gr g d h) (dpAll_gr g ds t)
end
theorem dpAll_get : ∀ {vs : List V} {ds : List PyData} {i : Nat} {v : V}, DpAll K H vs ds → vs[i]? = some v → ∃ d, ds[i]? = some d ∧ Dp K H v d
  | _, _, _, _, .nil, e => by simp at e
  | _, _, 0, _, .cons h t, e => by simp at e; subst e; exact ⟨_, rfl, h⟩
  | _, _, i + 1, v, .cons h t, e => by
    obtain ⟨d, e1, e2⟩ := dpAll_get (i := i) (v := v) t (by simpa using e)
    exact ⟨d, by simpa using e1, e2⟩
theorem dpAll_len : ∀ {vs : List V} {ds : List PyData}, DpAll K H vs ds → vs.length = ds.length
  | _, _, .nil => rfl
  | _, _, .cons _ t => congrArg (· + 1) (dpAll_len t)
theorem dpAll_append : ∀ {a : List V} {b : List PyData} {c : List V} {d : List PyData}, DpAll K H a b → DpAll K H c d → DpAll K H (a ++ c) (b ++ d)
  | _, _, _, _, .nil, h => h
  | _, _, _, _, .cons h t, h' => .cons h (dpAll_append t h')
/-- what can be compared: not too deep, not too long -/
def Fine : Nat → PyData → Prop
  | _, .none => True
  | _, .bool _ => True
  | _, .int _ => True
  | _, .str x => PyData.strOk x = true
  | n + 1, .list ds => ds.length ≤ 1000 ∧ ∀ d ∈ ds, Fine n d
  | n + 1, .tuple ds => ds.length ≤ 1000 ∧ ∀ d ∈ ds, Fine n d
  | _, _ => False
theorem Fine.sh : ∀ {n : Nat} {d : PyData}, Fine n d → Sh d n
  | _, .none, _ => .none
  | _, .bool b, _ => ⟨by simp [PyData.canLay0], by simp [PyData.depth]⟩
  | _, .int i, _ => .int
  | _, .str x, h => .str (by
    cases ‹Nat› <;> exact h)
  | n + 1, .list ds, h => (ShA.of fun d hd => (h.2 d hd).sh).list
  | n + 1, .tuple ds, h => (ShA.of fun d hd => (h.2 d hd).sh).tuple
  | 0, .list _, h => h.elim
  | 0, .tuple _, h => h.elim
  | 0, .dict _, h => h.elim
  | n + 1, .dict _, h => h.elim
theorem Fine.up : ∀ {n : Nat} {d : PyData}, Fine n d → Fine (n + 1) d
  | 0, .none, _ => trivial
  | 0, .bool b, _ => trivial
  | 0, .int i, _ => trivial
  | 0, .str x, h => h
  | 0, .list _, h => h.elim
  | 0, .tuple _, h => h.elim
  | 0, .dict _, h => h.elim
  | n + 1, .none, _ => trivial
  | n + 1, .bool b, _ => trivial
  | n + 1, .int i, _ => trivial
  | n + 1, .str x, h => h
  | n + 1, .list ds, h => ⟨h.1, fun d hd => (h.2 d hd).up⟩
  | n + 1, .tuple ds, h => ⟨h.1, fun d hd => (h.2 d hd).up⟩
  | n + 1, .dict _, h => h.elim
theorem w_eqSelf {Q : VK} {x y : V} {d : PyData} {n : Nat} (h : Dp K H x d) (h' : Dp K H y d) (f : Fine n d) (l : n ≤ 64) (k : Q (.bl true) H) : rEqD K x y H Q :=
  ⟨d, d, h, h', f.sh.shaped l, f.sh.shaped l, by rw [SeqAt.eqv_refl d f.sh.1]; exact k⟩
theorem w_neSelf {Q : VK} {x y : V} {d : PyData} {n : Nat} (h : Dp K H x d) (h' : Dp K H y d) (f : Fine n d) (l : n ≤ 64) (k : Q (.bl false) H) : rNeD K x y H Q :=
  ⟨d, d, h, h', f.sh.shaped l, f.sh.shaped l, by rw [SeqAt.eqv_refl d f.sh.1]; exact k⟩
/-! ### isinstance of data -/
def tyN : PyData → String
  | .none => "NoneType"
  | .bool _ => "bool"
  | .int _ => "int"
  | .str _ => "str"
  | .list _ => "list"
  | .tuple _ => "tuple"
  | .dict _ => "dict"
theorem dp_ty : ∀ {d : PyData} {v : V}, Dp K H v d → TyX K H v (.type (tyN d))
  | _, _, .non => .base .non
  | _, _, .bl b => .base (.bl b)
  | _, _, .int i => .base (.int i)
  | _, _, .str x => .base (.str x)
  | _, _, .lst h _ => by
    rcases h with (h | ⟨o, h⟩) | ⟨o, its, n, h1, h2, _⟩
    · exact .base (.lst h)
    · exact .base (.frz h)
    · exact .kList h1 h2
  | _, _, .tup h _ => by
    rcases h with (h | ⟨o, h⟩) | ⟨o, its, n, h1, h2, _⟩
    · exact .base (.tup h)
    · exact .fTuple h
    · exact .kTuple h1 h2
/-- isinstance(x, c) -/
theorem w_isi {Q : VK} {x : V} {d : PyData} {c : String} {b : Bool} (h : Dp K H x d) (e : kitB (tyN d) c = some b) (k : Q (.bl b) H) : rIsi K [x, .ty c] H Q := ⟨x, .ty c, _, _, b, rfl, .ty c, dp_ty h, kit_ty e, k⟩
/-- isinstance(x, (c1, c2)), the tuple just made -/
theorem w_isi2 {Q : VK} {x : V} {d : PyData} {t : Addr} {c1 c2 : String} {b1 b2 : Bool} (h : Dp K H x d) (ht : H t = some (.tup [.ty c1, .ty c2])) (e1 : kitB (tyN d) c1 = some b1) (e2 : kitB (tyN d) c2 = some b2) (k : Q (.bl (b1 || b2)) H) : rIsiT K [x, .ref t] H Q :=
  ⟨x, t, _, _, [.type c1, .type c2], b1 || b2, rfl, ht, .cons (.ty c1) (.cons (.ty c2) .nil), dp_ty h, kitAny_cons (kit_ty e1) (fun z => kitAny_cons (kit_ty e2) (fun z2 => by rw [z, z2]; exact kitAny_nil) (fun z2 => by rw [z, z2]; rfl)) (fun z => by rw [z]; rfl), k⟩
/-! ### zip of two tuples -/
theorem walk_zT {a b : Addr} {xs ys : List V} (hl : xs.length = ys.length) : Walk (RZ.ItzT K a b) xs.length (fun H => SqT K H a xs ∧ SqT K H b ys) (YPair (fun i => xs[i]?) (fun i => ys[i]?)) where
  goes := fun i H hi q => ⟨xs, ys, xs[i], ys[i]'(by omega), q.1, q.2, by simp, by simp⟩
  stops := fun H q => ⟨xs, ys, q.1, q.2, .inl (Nat.le_refl _)⟩
  yields := fun i H v H' _ q y => by
    obtain ⟨T, x, z, h1, h2, h3, h4, h5⟩ := y
    exact ⟨T, x, z, h1, h2, h3, h4 xs q.1, h5 ys q.2⟩
theorem w_zipA {σ : L2.St} {ta : TA} {R : It → Hp → Prop} (k : ta σ H fun vs H1 => ∃ a b xs ys, vs = [.ref a, .ref b] ∧ ((SqL K H1 a xs ∧ SqL K H1 b ys ∧ R (Itz K a b) H1) ∨ (SqT K H1 a xs ∧ SqT K H1 b ys ∧ R (RZ.ItzT K a b) H1))) : RZ.iZipA K ta σ H R := k
end
/-- the def at its name, promising nothing -/
theorem Has.bot {P : Program} {w : World} {K : PySem.W.Frag} {mg : Str → Option Value} {base : Heap} {x : Str} {st : Stmt} {ps : List Str} (D : Df K mg x st ps) (k : Nat) : Has P w K mg base k x ps (fun _ _ _ _ => False) :=
  Has.mk' D fun f fd F => ⟨fun _ _ _ _ h => h.elim, fun _ _ _ _ _ _ _ _ _ _ _ _ _ h => h.elim⟩
end PK

set_option Elab.async false
set_option linter.all false
set_option maxRecDepth 100000
/-! Rules that are told what a name stands for. -/
namespace PK
open PySem L2
section
variable {X : Cx} {K : PySem.W.Frag} {pos : Pos}
theorem pg_tupK {es : List Expr} {k : Nat} {t : TGs} {n : Nat} (hc : X.calm = true) (h : PGs X es t) (hK : X.K = K := by rfl)
    (hn : (assignEach es X.env).length = n := by rfl) (hst : (assignEach es X.env).findIdx? (·.1) = none := by rfl) : PG X (.Tuple es k pos) (gTup K n t) := by
  subst hK; exact pg_tup hc h hn hst
end
/-! ### rows in lists or in tuples -/
section
variable {K : PySem.W.Frag} {H H' : Hp}
def Sq (K : PySem.W.Frag) (H : Hp) (a : Addr) (xs : List V) : Prop := SqL K H a xs ∨ SqT K H a xs
theorem Sq.gr {a : Addr} {xs : List V} (h : Sq K H a xs) (g : Gr [] H H') : Sq K H' a xs := h.imp (sqL_gr g (by simp)) (sqT_gr g)
/-- an event, its parts in a list or in a tuple -/
def RowQ (K : PySem.W.Frag) (H : Hp) (v : V) (e : Ev) : Prop := ∃ a, v = .ref a ∧ Sq K H a e.vs
theorem RowQ.gr {v : V} {e : Ev} (h : RowQ K H v e) (g : Gr [] H H') : RowQ K H' v e := by
  obtain ⟨a, r, q⟩ := h
  exact ⟨a, r, q.gr g⟩
def TabQ (K : PySem.W.Frag) (H : Hp) (v : V) (es : List Ev) : Prop := ∃ a xs, v = .ref a ∧ Sq K H a xs ∧ Paired (RowQ K H) xs es
theorem TabQ.gr {v : V} {es : List Ev} (h : TabQ K H v es) (g : Gr [] H H') : TabQ K H' v es := by
  obtain ⟨a, xs, r, q, p⟩ := h
  exact ⟨a, xs, r, q.gr g, Paired.mono (fun _ _ z => z.gr g) p⟩
theorem TabQ.of_tt {v : V} {es : List Ev} (h : IsTT H v es) : TabQ K H v es := by
  obtain ⟨a, xs, r, q, p⟩ := h
  refine ⟨a, xs, r, .inr (SqT.of q), Paired.mono (fun _ _ z => ?_) p⟩
  obtain ⟨c, e, hc⟩ := z
  exact ⟨c, e, .inr (SqT.of hc)⟩
theorem w_ixQ {Q : VK} {v : V} {p : Addr} {xs : List V} {i : Int} (h : Sq K H p xs) (hx : atI xs i = some v) (k : Q v H) : rIx K (.ref p) (.int i) H Q :=
  h.elim (fun z => .inl ⟨p, xs, i, v, rfl, rfl, z, hx, k⟩) (fun z => .inr (.inl ⟨p, xs, i, v, rfl, rfl, z, hx, k⟩))
theorem w_enSv {B : Hp} {σ : L2.St} {R : It → Hp → Prop} {i : Nat} {a : Addr} {xs : List V} (h : σ[i]? = some (some (.ref a))) (hq : Sq K B a xs) (g : Gr [] B H)
    (k : ∀ (J : It) (G : Hp → Prop), (∀ H', Gr [] B H' → G H') → Walk J xs.length G (YPair (fun i => some (.int (i : Nat))) (fun i => xs[i]?)) → R J H) : iEnS K (tCons (tVar i) tNil) σ H R := by
  rcases hq with z | z
  · exact .inl (WK.w_cons (WK.w_var h (WK.w_nil ⟨a, xs, rfl, sqL_gr g (by simp) z, k _ _ (fun _ g => sqL_gr g (by simp) z) walk_enum⟩)))
  · exact .inr (WK.w_cons (WK.w_var h (WK.w_nil ⟨a, xs, rfl, sqT_gr g z, k _ _ (fun _ g => sqT_gr g z) walk_enT⟩)))
theorem w_seqv {B : Hp} {σ : L2.St} {R : It → Hp → Prop} {i : Nat} {a : Addr} {xs : List V} (h : σ[i]? = some (some (.ref a))) (hq : Sq K B a xs) (g : Gr [] B H)
    (k : ∀ (J : It) (G : Hp → Prop), (∀ H', Gr [] B H' → G H') → Walk J xs.length G (YAt xs) → R J H) : iSeq K (tVar i) σ H R := by
  rcases hq with z | z
  · exact .inl (w_itL (WK.w_var h ⟨a, rfl, ⟨_, sqL_gr g (by simp) z⟩, k _ _ (fun _ g => sqL_gr g (by simp) z) walk_list⟩))
  · exact .inr (w_itT (WK.w_var h ⟨a, rfl, ⟨_, sqT_gr g z⟩, k _ _ (fun _ g => sqT_gr g z) walk_tup⟩))
end
end PK

set_option Elab.async false
set_option linter.all false
set_option maxRecDepth 100000
/-! A def of one parameter that is called by its parameter's name, too. -/
namespace PK
open PySem L2
/-- the one value that is told by a name -/
def kv1 {α : Type} : List α → List α → List α
  | [], [u] => [u]
  | _, _ => []
/-- a def of one parameter: by place and by name -/
structure Df1 (K : PySem.W.Frag) (mg : Str → Option Value) (x : Str) (st : Stmt) (ps : List Str) : Prop where
  ex : ∃ f fd, Fun K x x st f fd ∧ mg x = some (.ref f) ∧ Binds K fd ps [] ∧ KBinds K fd ps ps kv1 kv1
structure Has1 (P : Program) (w : World) (K : PySem.W.Frag) (mg : Str → Option Value) (base : Heap) (k : Nat) (x : Str) (ps : List Str) (sp : Sp) : Prop where
  ex : ∃ f fd, FnOk P w K mg base CX0 k f fd ps sp ∧ mg x = some (.ref f) ∧ PySem.W.keepIn K (.ref f) = true ∧ Binds K fd ps [] ∧ KBinds K fd ps ps kv1 kv1
section
variable {P : Program} {w : World} {K : PySem.W.Frag} {mg : Str → Option Value} {base : Heap} {k : Nat} {x : Str} {st : Stmt} {ps : List Str} {sp : Sp}
theorem Df1.df (D : Df1 K mg x st ps) : Df K mg x st ps := by
  obtain ⟨f, fd, F, m, b, _⟩ := D.ex
  exact ⟨f, fd, F, m, b⟩
theorem Has1.mk' (D : Df1 K mg x st ps) (h : ∀ f fd, Fun K x x st f fd → FnOk P w K mg base CX0 k f fd ps sp) : Has1 P w K mg base k x ps sp := by
  obtain ⟨f, fd, F, m, b, kb⟩ := D.ex
  exact ⟨f, fd, h f fd F, m, F.kp, b, kb⟩
theorem Has1.has (h : Has1 P w K mg base k x ps sp) : Has P w K mg base k x ps sp := by
  obtain ⟨f, fd, F, m, kp, b, _⟩ := h.ex
  exact ⟨f, fd, F, m, kp, b⟩
theorem kv1_rel {vs : List V} {us : List Value} {zs : List V} {ws : List Value} (h : Vals vs us) (h' : Vals zs ws) : Vals (kv1 vs zs) (kv1 us ws) := by
  cases h with
  | nil =>
    cases h' with
    | nil => exact .nil
    | cons r t =>
      cases t with
      | nil => exact .cons r .nil
      | cons _ _ => exact .nil
  | cons r t => exact .nil
end
def tKw (sp : Sp) (t : TA) : TE := fun σ H Q => t σ H fun zs H2 => sp (kv1 [] zs) H2 Q E0
section
variable {X : Cx} {k : Nat} {x : Str} {ps : List Str} {sp : Sp} {kws : List Keyword} {pos p : Pos} {t : TA}
/-- x(name=e) -/
theorem pe_kwH (D : Has1 X.prog X.w X.K X.mg X.base k x ps sp) (room : Room k X.A) (hg : Gl X x) (kw : L2.PK X kws t) (named : (backToKw pos (keywordEach kws X.env)).all (·.1.isSome) = true := by rfl)
    (names : (backToKw pos (keywordEach kws X.env)).filterMap (·.1) = ps := by rfl) (hdb : (x == ("__debug__" : Str)) = false := by decide)
    (plain : ((backTo pos (starEach [] X.env)).any (·.1) || (backToKw pos (keywordEach kws X.env)).any (·.1.isNone)) = false := by rfl) : PE X (.Call (.Name x p) [] kws pos) (tKw sp t) := by
  obtain ⟨f, fd, F, m, kp, _, kb⟩ := D.ex
  refine ⟨fun pins s σ H Q I want => wpAny_Call_Name_kw (ld_glob I hg m ?_ hdb)⟩
  refine PySem.W.callWith_KW0 (h₀ := X.base) I.ok.mod.kin kp named ?_ plain
  rw [names]
  exact thn (kw.run pos pins s σ H _ I want) fun ws s1 ⟨zs, H1, I1, rel, go⟩ => ⟨I1.kIn, run_fnk (us := []) (vs := []) F room kb pass0 I1 .nil rel go⟩
end
theorem WK.w_kw {sp : Sp} {t : TA} {σ : L2.St} {H : Hp} {Q : VK} (k : t σ H fun zs H2 => sp (kv1 [] zs) H2 Q E0) : tKw sp t σ H Q := k
end PK

set_option Elab.async false
set_option linter.all false
set_option maxRecDepth 100000
/-! Sets of whole numbers made out of a list. -/
namespace PK
open PySem PySem.Spec PyProof.Rows L2
section
variable {P : Program} {w : World} {A : Around} {E : Value → Shared → Prop} {s : Shared}
/-- a set without members, just made -/
abbrev bare (w : World) : Obj := { cls := .type "set", dict := none, data := .set #[] 0 (.fresh 0 0 (!w.params.followText "set-order")) }
/-- a built-in type is called, its __init__ asked after its arguments by itself -/
theorem type_makes {T newId initId : String} {B : Builtin} {args : List Value} {Q Q₁ : Value → Shared → Prop} (ft : TypeCalled T newId initId) (fine : checkTypeCall T ⟨args, []⟩ = pure ()) (ini : entryFor table initId = some B)
    (born : codeAny (model P w) A.in1 (.call (.builtin newId) ⟨.type T :: args, []⟩) (wants Q₁ E) s)
    (filled : ∀ o u, Q₁ o u → u.TypeIs o T ∧ codeAny (model P w) A.in1 (.call (.builtin initId) ⟨o :: args, []⟩) (wants (fun r u' => r = .none ∧ Q o u') E) u) :
    wpAny (model P w) A (call (.type T) args) Q E s := by
  have ⟨⟨c, tl, hm⟩, x1, x2, x3, x4⟩ := And.intro ft.mro (And.intro ft.made (And.intro ft.sub (And.intro ft.notType ft.canCreate)))
  refine wpAny_call (codeAny_of_tree (show wpAny _ _ (callAny (.type T) _) _ _ _ from wpAny_pure ⟨Code.quiet_builtin _ (by decide +kernel), codeAny_builtin F.entry_type_call ?_⟩))
  rw [Around.under_plain (weight_type_call_type T args []) rfl]
  repeat (any_goals (first | assumption | wp_step))
  refine codeAny_mono born fun r u h => ?_
  match r, h with
  | .ok (.ret o), h =>
    have ⟨ty, last⟩ := filled _ _ h
    have y1 := ft.init.lookup
    have y2 := ft.init.bind o
    repeat (any_goals (first | assumption | wp_step))
    refine codeAny_mono last fun r2 u2 h2 => ?_
    match r2, h2 with
    | .ok (.ret q), ⟨e, h3⟩ =>
      subst e
      repeat (any_goals (first | assumption | wp_step))
    | .error e, h3 => exact h3
  | .error e, h => exact h
/-- set(xs) of a list of whole numbers -/
theorem set_of_list {a : Addr} {us : Array Value} (ns : List Int) {Q : Value → Shared → Prop} (quiet : A.handled = none) (at_ : s.heap.IsList a us) (whole : IntsAre us.toList ns) (few : ns.length + 1 < scanBound)
    (go : ∀ (h' : Heap) (tk c : Nat), SetR w h' s.heap.objs.size (fun j => decide (j ∈ ns)) c → (∀ b o, s.heap.get? b = some o → h'.get? b = some o) → Q (.ref s.heap.objs.size) { s with heap := h', toks := tk }) :
    wpAny (model P w) A (call (.type "set") [.ref a]) Q E s := by
  refine type_makes (Q₁ := fun o u => o = .ref s.heap.objs.size ∧ u = { s with heap := s.heap.push (bare w) }) F.called_set (F.typeCall_set_1 _) F.entry_set_init (code_set_led1 _ ⟨rfl, rfl⟩) ?_
  rintro _ _ ⟨rfl, rfl⟩
  have here : (s.heap.push (bare w)).get? s.heap.objs.size = some (bare w) := Heap.get?_push_size _ rfl
  refine ⟨⟨_, here, rfl⟩, codeAny_call_builtin F.called_set.init.plain F.entry_set_init (check_set_init_1 ⟨_, here, rfl⟩ ?_)⟩
  · obtain ⟨o, ho, hc, nl, hd⟩ := at_
    obtain ⟨oc, od, odat, osl⟩ := o
    dsimp only at hc hd
    subst hc hd
    have ho2 : (s.heap.push (bare w)).get? a = some { cls := .type "list", dict := od, data := .seq us nl, slots := osl } := Heap.get?_push_of_some _ ho
    have list2 : (s.heap.push (bare w)).IsList a us := ⟨_, ho2, rfl, nl, rfl⟩
    have n1 := F.sub_list_set
    have n2 := F.sub_list_frozenset
    have n3 : (Value.type "list" == Value.type "dict") = false := by decide
    unfold Builtin.«set.__init__» noKeywords Builtin.Frozenset.updateFrom
    generalize hp : pyIter = iter_
    wp_walk
    subst hp
    refine wpAny_pyIter_list list2 (wpAny_bind (wpAny_runValue ?_))
    have below : a < s.heap.objs.size := Heap.lt_size ho
    have grown : (s.heap.push (bare w)).objs.size = s.heap.objs.size + 1 := Heap.size_push ..
    have long : us.size = ns.length := by
      have z := IntsAre.length whole
      rwa [Array.length_toList] at z
    have apart : a ≠ (s.heap.push (bare w)).objs.size := by
      rw [grown]
      exact Nat.ne_of_lt (Nat.lt_succ_of_lt below)
    refine set_update_ints ((Walks.list (by simp [quiet]) _ a apart us).toS) s.heap.objs.size ?out ns long few ?vals us.size 0 _ rfl (Nat.zero_le _) ⟨⟨_, Heap.get?_push_size _ rfl, rfl, rfl⟩, list2.push _⟩ ⟨0, Nat.le_refl 0, setR_new_at (Heap.get?_push_of_some _ here)⟩ ?end_
    case out =>
      rw [grown]
      simp only [List.mem_cons, List.not_mem_nil, or_false, not_or]
      exact ⟨Nat.ne_of_lt (Nat.lt_succ_self _), Nat.ne_of_gt below⟩
    case vals =>
      intro i v hv
      have hi : i < ns.length := by
        rw [← long]
        exact (Array.getElem?_eq_some_iff.mp hv).1
      obtain ⟨t, e⟩ := IntsAre.int_at whole i v (by rw [Array.getElem?_toList]; exact hv)
      exact ⟨ns[i], t, List.getElem?_eq_getElem hi, by rw [e, List.getD_eq_getElem?_getD, List.getElem?_eq_getElem hi]; rfl⟩
    case end_ =>
      intro s2 c moved _ made
      have same : s2 = { s with heap := s2.heap, toks := s2.toks } := by
        have g1 := moved.gens
        have g2 := moved.drawn
        have g3 := moved.os
        cases s2
        cases s
        cases g1
        cases g2
        cases g3
        rfl
      refine wpAny_pure ?_
      show wpAny _ _ (ret Value.none) _ _ _
      refine wpAny_pure ⟨rfl, ?_⟩
      rw [same]
      refine go _ _ c made fun b o e => ?_
      have hb := Heap.lt_size e
      refine moved.heap b o ?_ (Heap.get?_push_of_some _ (Heap.get?_push_of_some _ e))
      rw [grown]
      simp only [List.mem_cons, List.not_mem_nil, or_false, not_or]
      exact ⟨Nat.ne_of_lt hb, Nat.ne_of_lt (Nat.lt_succ_of_lt hb)⟩
end

/-- what a set of n members has, as a row without doubles -/
def Mem (S : Int → Bool) (n : Nat) : Prop := ∃ ms : List Int, ms.Nodup ∧ ms.length = n ∧ ∀ k, S k = true ↔ k ∈ ms
theorem setR_mem {w : World} {h : Heap} {a : Addr} {S : Int → Bool} {n : Nat} (R : SetR w h a S n) : Mem S n := by
  obtain ⟨o, es, ep, t, _, _, _, _, nd, hm, _, _, hn, _⟩ := R
  exact ⟨_, nd, by rw [List.length_map, Array.length_toList]; exact hn, hm⟩
def rSetI (K : PySem.W.Frag) (w : World) : List V → Hp → VK → Prop := fun vs H Q => ∃ (a : Addr) (ns : List Int), vs = [V.ref a] ∧ SqL K H a (ns.map V.int) ∧ ns.length ≤ 1000 ∧
  ∀ (p : Addr) (S : Int → Bool) (n : Nat), Mem S n → (∀ k, S k = true ↔ k ∈ ns) → H p = none → Q (.ref p) (upd H p (SetO w p S n))
theorem cr_setI {X : Cx} {K : PySem.W.Frag} (hc : X.calm = true) (hK : X.K = K := by rfl) : CallR X (.type "set") (rSetI K X.w) := by
  subst hK
  intro pins s σ H vs us Q I r h
  obtain ⟨a, ns, rfl, hs, hl, q⟩ := h
  rw [Vals.ref1 r]
  obtain ⟨its, rv, at_, _⟩ := I.list hs
  refine set_of_list ns (I.ok.hd hc) at_.isList rv.ints (by unfold scanBound; omega) fun h' tk c R k => ?_
  exact ⟨.ref _, upd H s.heap.objs.size (SetO X.w s.heap.objs.size _ c), I.laid (t' := tk) k (Nat.le_refl _) (setO_new R), rfl, q _ _ c (setR_mem R) (fun k => by simp) (I.hok.fresh (Nat.le_refl _))⟩
end PK

set_option Elab.async false
set_option linter.all false
set_option maxRecDepth 100000
/-! A set comprehension, whatever its set holds. -/
namespace PK
open PySem PySem.Spec PyProof.Rows L2
section
variable {Y : Cx} {tg iter elt : Expr} {ifs : List Expr} {scope : Scope} {pos : Pos} {J : It} {fp : List Addr} {it D : Addr} {tn : Nat → Heap → Prop} {g : TG} {tt : TT} {te : TE} {σ0 : L2.St}
/-- set.add, by what it does to the heap -/
def Adds (Y : Cx) (D : Addr) (Ad : V → Hp → Hp → Prop) : Prop := ∀ (pins : List (Addr × Obj)) (σ : L2.St) (H H' : Hp) (s : Shared) (v : V) (u : Value) (E : Value → Shared → Prop) (Q : Value → Shared → Prop), Inv Y pins σ H s → RelV v u → Ad v H H' →
  (∀ s', Inv Y pins σ H' s' → Q .none s') → wpAny (model Y.prog Y.w) Y.A (call (.builtin "set.add") [.ref D, u]) Q E s
/-- one turn of the block, or its end -/
def Turns (J : It) (g : TG) (tt : TT) (te : TE) (vs : List Nat) (σ0 : L2.St) (Ad : V → Hp → Hp → Prop) (W : Nat → Nat → Hp → Prop) (End : Hp → Prop) : Prop := ∀ i m H, W i m H →
  (J.stop i H ∧ End H) ∨ (J.go i H ∧ ∃ N : Hp → Prop, (∀ H', N H' → ∃ m', m' < m ∧ W (i + 1) m' H') ∧
    ∀ x H', J.yld i H x H' → g x σ0 H' fun σ2 H2 => wipe σ2 vs = σ0 ∧ tt σ2 H2 fun b H3 => if b = true then te σ2 H3 fun y H4 => ∃ H5, Ad y H4 H5 ∧ N H5 else N H3)
theorem gather (calm : Y.calm = true) (dry : Y.xe = fun _ _ => False) (T : Turn Y.prog Y.w Y.K tg J fp it tn) (rg : PG Y tg g) (rt : PTs Y ifs tt) (re : PE Y elt te) {Ad : V → Hp → Hp → Prop} (adds : Adds Y D Ad)
    (alive : ∀ H σ s, Inv Y [] σ H s → (∀ b ∈ fp, H b = none) → ∀ b ∈ fp, FpOk Y [] H b) {vs : List Nat} {W : Nat → Nat → Hp → Prop} {End : Hp → Prop} {R : Result → Shared → Prop} (turns : Turns J g tt te vs σ0 Ad W End)
    (ends : ∀ H s, Inv Y [] σ0 H s → End H → R (.ok .next) s) {m : Nat} {s : Shared} {H : Hp} (I : Inv Y [] σ0 H s) (t0 : tn 0 s.heap) (free : ∀ b ∈ fp, H b = none) (w0 : W 0 m H) :
    codeAny (model Y.prog Y.w) Y.A (.compLoop (.SetComp elt [⟨tg, iter, ifs, 0⟩] scope pos) 0 (.ref it) (.ref D) Y.env) R s := by
  refine PpSet.compLoopS_any (fun k u => ∃ j G, W j k G ∧ Inv Y [] σ0 G u ∧ tn j u.heap ∧ ∀ b ∈ fp, G b = none) (fun k u ⟨j, G, w, IG, tj, fr⟩ => ?_) m ⟨0, H, w0, I, t0, free⟩
  have up := alive G _ u IG fr
  rcases turns j k G w with ⟨over, fin⟩ | ⟨more, N, next, go⟩
  · exact thnF (T.done Y rfl rfl rfl calm j [] u σ0 G _ IG up tj over) fun r u1 ⟨e, I1⟩ => by
      subst e
      exact ends G u1 I1 fin
  · refine thnF (T.item Y rfl rfl rfl calm j [] u σ0 G _ IG up tj more) fun r u1 ⟨v, e, h1⟩ => ?_
    subst e
    refine thnF h1 fun _ u2 ⟨x, G2, I2, rx, yx, t2, fr2⟩ => ?_
    have held := I2.pinned (alive G2 _ u2 I2 fr2) (T.obj _ _ t2)
    -- where a turn comes out
    have back : ∀ (σ2 : L2.St) (u' : Shared) (G' : Hp), wipe σ2 vs = σ0 → Inv Y ([] ++ pinsAt fp u2.heap) σ2 G' u' → N G' → ∃ k', k' < k ∧ ∃ j' G'', W j' k' G'' ∧ Inv Y [] σ0 G'' u' ∧ tn j' u'.heap ∧ ∀ b ∈ fp, G'' b = none := fun σ2 u' G' wp I' n' => by
      obtain ⟨k', lt, w'⟩ := next G' n'
      have stay : ∀ b ∈ fp, ∀ o, u2.heap.get? b = some o → u'.heap.get? b = some o ∧ G' b = none := fun b hb o e => by
        have z := I'.pin (b, o) (List.mem_append_right _ (List.mem_append_right _ (mem_pinsAt hb e)))
        exact ⟨z.1, z.2.1⟩
      refine ⟨k', lt, j + 1, G', w', ?_, T.keep _ _ _ t2 fun b hb o e => (stay b hb o e).1, fun b hb => ?_⟩
      · refine (Inv.unpinned (pins := []) I').weak (by rw [← wp, wipe_length]) fun a y e => ?_
        rw [← wp] at e
        exact (wipe_some e).1
      · obtain ⟨o, e, _⟩ := T.obj _ _ t2 b hb
        exact (stay b hb o e).2
    have r1 := rg.run _ u2 σ0 G2 x v _ held rx (go x G2 yx)
    rw [dry] at r1
    refine thnF r1 fun _ u3 ⟨σ3, G3, I3, wp, h3⟩ => ?_
    have r2 := rt.run _ u3 σ3 G3 _ I3 h3
    rw [dry] at r2
    refine thnF r2 fun b u4 ⟨G4, I4, h4⟩ => ?_
    cases b with
    | false => exact back σ3 u4 G4 wp I4 (by simpa using h4)
    | true =>
      have r3 := re.run _ u4 σ3 G4 _ I4 (by simpa using h4)
      rw [dry] at r3
      exact thnF r3 fun z u5 ⟨y, G5, I5, ry, G6, ad, n6⟩ => adds _ σ3 G5 G6 u5 y z _ _ I5 ry ad fun u6 I6 => back σ3 u6 G6 wp I6 n6
end
/-- a set comprehension: O, the set as it comes; Ad, what a member does to it -/
def tColl (O : Addr → HO) (Ad : Addr → V → Hp → Hp → Prop) (wi : TI) (g : TG) (tt : TT) (te : TE) (vs : List Nat) : TE := fun σ H Q => wi σ H fun J H1 => ∀ D, H1 D = none →
  ∃ W : Nat → Nat → Hp → Prop, (∃ m, W 0 m (upd H1 D (O D))) ∧ Turns J g tt te vs (wipe σ vs) (Ad D) W (Q (.ref D))
section
variable {X : Cx} {tg iter elt : Expr} {ifs : List Expr} {scope : Scope} {pos : Pos} {g : TG} {tt : TT} {te : TE} {wi : TI} {own : List (PySem.Str × Nat)} {O : Addr → HO} {Ad : Addr → V → Hp → Hp → Prop}
theorem pe_coll (calm : X.calm = true) (nodup : X.N.Nodup) (walks : PI X tg iter wi) (ok : BlkOk X.N X.env.scope scope own)
    (meets : ∀ u G C cl fp, PG (X.blk u G scope (compEnvC scope cl C X.env) fp) tg g) (tests : ∀ u G C cl fp, PTs (X.blk u G scope (compEnvC scope cl C X.env) fp) ifs tt) (elts : ∀ u G C cl fp, PE (X.blk u G scope (compEnvC scope cl C X.env) fp) elt te)
    (comes : ∀ (h : Heap) (G : Hp), ObjOk X.prog X.w G (h.push (bare X.w)) h.objs.size (O h.objs.size)) (adds : ∀ (Y : Cx) D, Y.prog = X.prog → Y.w = X.w → Adds Y D (Ad D))
    (folds : ∀ x, foldedSetIterable iter X.env x = pure x := by intro _; rfl) : PE X (.SetComp elt [⟨tg, iter, ifs, 0⟩] scope pos) (tColl O Ad wi g tt te (own.map (·.2))) := by
  refine ⟨fun pins s σ H Q I want => ?_⟩
  rw [PpSet.eval_SetComp]
  have known : ∀ y ∈ scope.names, y.2 = .free → ∃ c, X.env.cells.lookup y.1 = some c := fun y hy e =>
    (ok.free y hy e).elim (fun z => I.ok.has _ (.inl z)) (fun z => I.ok.has _ (.inr z))
  refine wpAny_comprehension_free (use := none) rfl folds (closure_ok known) ok.kind (fun y hy e => (ok.uniq y hy).trans (by rw [e])) (thn (walks.run pins s σ H _ I want) fun v s1 h1 => thn h1 fun iv s2 h2 => ?_)
  obtain ⟨it, fp, tn, J, H2, e, I2, T, t2, f2, q⟩ := h2
  subst e
  refine PpSet.newSet_ok (newEnv_comp ?_)
  obtain ⟨W, ⟨m, w0⟩, turns⟩ := q s2.heap.objs.size (I2.hok.fresh (Nat.le_refl _))
  have I3 : Inv X pins σ (upd H2 s2.heap.objs.size (O s2.heap.objs.size)) { s2 with heap := s2.heap.push (bare X.w) } :=
    I2.laid (t' := s2.toks) (fun b o e => Heap.get?_push_of_some _ e) (Nat.le_refl _) (comes _ _)
  generalize hD : s2.heap.objs.size = D at *
  generalize hG : upd H2 D (O D) = G at *
  have fp3 : ∀ b ∈ fp, FpOk X pins G b ∧ b < (s2.heap.push (bare X.w)).objs.size := fun b hb => by
    obtain ⟨o, e, _⟩ := T.obj _ _ t2 b hb
    have lt := Heap.lt_size e
    refine ⟨⟨?_, (f2 b hb).2⟩, Nat.lt_of_lt_of_le lt (by rw [Heap.size_push]; exact Nat.le_succ _)⟩
    rw [← hG, upd_ne (by rw [← hD]; exact Nat.ne_of_lt lt)]
    exact (f2 b hb).1
  have t3 : tn 0 (s2.heap.push (bare X.w)) := T.keep _ _ _ t2 fun b _ o e => Heap.get?_push_of_some _ e
  generalize hu : ({ s2 with heap := s2.heap.push (bare X.w) } : Shared) = u at *
  have hu' : s2.heap.push (bare X.w) = u.heap := by rw [← hu]
  rw [hu'] at fp3 t3
  have I4 := block_start I3 ok nodup fp3
  have t4 : tn 0 (pushCells (u.heap.push { cls := .type "dict", data := .dict #[] }) scope.names) := T.keep _ _ _ t3 fun b _ o e => pushCells_keeps _ _ _ _ (Heap.get?_push_of_some _ e)
  have rg := meets u G u.heap.objs.size (cellsFrom (u.heap.objs.size + 1) scope.names (cloFrom X.env.cells scope.names [])) fp
  have rt := tests u G u.heap.objs.size (cellsFrom (u.heap.objs.size + 1) scope.names (cloFrom X.env.cells scope.names [])) fp
  have re := elts u G u.heap.objs.size (cellsFrom (u.heap.objs.size + 1) scope.names (cloFrom X.env.cells scope.names [])) fp
  have runs := gather (Y := X.blk u G scope (compEnvC scope (cellsFrom (u.heap.objs.size + 1) scope.names (cloFrom X.env.cells scope.names [])) u.heap.objs.size X.env) fp) (elt := elt) (iter := iter) (scope := scope) (pos := pos) (D := D) (R := compPost (model X.prog X.w) X.A X.xe none (EP X pins σ Q) (.ref D) u.heap.objs.size) calm rfl T rg rt re (adds _ D rfl rfl)
    (fun K σ' u' I' fr b hb => ⟨fr b hb, (I'.ok.exf b hb).1, I'.ok.exfs b hb, .inl hb, fun x c e => (I'.ok.exf b hb).2 x c e, fun p hp => by simp [Cx.blk] at hp⟩) turns
    (fun K u' I' fin => by
      have gone : K u.heap.objs.size = none := I'.free
      obtain ⟨n, ns, _⟩ := I'.loc
      obtain ⟨c0, c1, _, c3, c4, c5⟩ := I3.fpOk (Nat.le_refl _) gone
      have I5 : Inv X pins σ K u' := I3.call' (ch := fp) I'.os I'.base I'.hok I'.bare fun b hb => by
        obtain ⟨⟨_, a1, _, a3, a4, a5⟩, _⟩ := fp3 b hb
        exact ⟨a3, a1, a4, a5⟩
      exact ⟨n, ns, fun h2 sb => ⟨.ref D, K, I5.turned (t' := u'.toks) (fun b o hb e => (sb.2 b hb).trans e) c0 c1 c3 c4 c5, rfl, fin⟩⟩) I4 t4 (fun b hb => (fp3 b hb).1.1) w0
  exact PpSet.codeAny_compStart_set runs (T.self X.A 0 _ _ _ t4 runs)
end
/-! ### of whole numbers -/
def OI (w : World) (D : Addr) : HO := SetO w D (fun _ => false) 0
def AdI (w : World) (D : Addr) (v : V) (H H' : Hp) : Prop := ∃ (c : Int) (S : Int → Bool) (n : Nat), v = .int c ∧ H D = some (SetO w D S n) ∧ n + 1 < scanBound ∧ H' = upd H D (SetO w D (fun j => S j || decide (j = c)) (if S c = true then n else n + 1))
theorem addsI {w : World} (Y : Cx) (D : Addr) (e : Y.w = w) : Adds Y D (AdI w D) := by
  subst e
  intro pins σ H H' s v u E Q I rv ⟨c, S, n, ev, at_, room, eH⟩ k
  subst ev eH
  obtain ⟨tk, rfl⟩ := rv
  refine setR_add (setO_get I at_) room fun h2 sb made => ?_
  have ⟨o, _, _, _, ho, _⟩ := made
  exact k _ (I.write (e := D) (t' := s.toks + 1) (by rw [at_]; trivial) (.inl rfl) (fun b x hb hx => (sb.2 b hb).trans hx) ⟨o, ho⟩ (setO_new made))
section
variable {X : Cx} {tg iter elt : Expr} {ifs : List Expr} {scope : Scope} {pos : Pos} {g : TG} {tt : TT} {te : TE} {wi : TI} {own : List (PySem.Str × Nat)}
theorem pe_collI (calm : X.calm = true) (nodup : X.N.Nodup) (walks : PI X tg iter wi) (ok : BlkOk X.N X.env.scope scope own)
    (meets : ∀ u G C cl fp, PG (X.blk u G scope (compEnvC scope cl C X.env) fp) tg g) (tests : ∀ u G C cl fp, PTs (X.blk u G scope (compEnvC scope cl C X.env) fp) ifs tt) (elts : ∀ u G C cl fp, PE (X.blk u G scope (compEnvC scope cl C X.env) fp) elt te)
    (folds : ∀ x, foldedSetIterable iter X.env x = pure x := by intro _; rfl) : PE X (.SetComp elt [⟨tg, iter, ifs, 0⟩] scope pos) (tColl (OI X.w) (AdI X.w) wi g tt te (own.map (·.2))) :=
  pe_coll calm nodup walks ok meets tests elts (fun h G => setO_new (setR_fresh X.w)) (fun Y D _ e => addsI Y D e) folds
end
/-! ### how a set comprehension is met -/
def Co (O : Addr → HO) (Ad : Addr → V → Hp → Hp → Prop) (J : It) (g : TG) (tt : TT) (te : TE) (vs : List Nat) (σ : L2.St) (H1 : Hp) (Q : VK) : Prop := ∀ D, H1 D = none →
  ∃ W : Nat → Nat → Hp → Prop, (∃ m, W 0 m (upd H1 D (O D))) ∧ Turns J g tt te vs (wipe σ vs) (Ad D) W (Q (.ref D))
section
variable {O : Addr → HO} {Ad : Addr → V → Hp → Hp → Prop} {J : It} {n : Nat} {G : Hp → Prop} {Y : Nat → Hp → V → Hp → Prop} {g : TG} {tt : TT} {te : TE} {vs : List Nat} {σ : L2.St} {H : Hp} {Q : VK} {wi : TI}
theorem w_coll (k : wi σ H fun J H1 => Co O Ad J g tt te vs σ H1 Q) : tColl O Ad wi g tt te vs σ H Q := k
theorem co_go (wk : Walk J n G Y) (R : Addr → Nat → Hp → Prop) (h0 : ∀ D, H D = none → R D 0 (upd H D (O D))) (hG : ∀ D i H', i ≤ n → R D i H' → G H')
    (hs : ∀ D i x H' H2, H D = none → i < n → R D i H' → Y i H' x H2 → g x (wipe σ vs) H2 fun σ2 H3 => wipe σ2 vs = wipe σ vs ∧ tt σ2 H3 fun b H4 => if b = true then te σ2 H4 fun y H5 => ∃ H6, Ad D y H5 H6 ∧ R D (i + 1) H6 else R D (i + 1) H4)
    (hd : ∀ D H', H D = none → R D n H' → Q (.ref D) H') : Co O Ad J g tt te vs σ H Q := fun D nD =>
  ⟨fun i m H' => m = n - i ∧ i ≤ n ∧ R D i H', ⟨n, rfl, Nat.zero_le _, h0 D nD⟩, fun i m H' ⟨e, l, r⟩ => by
    by_cases lt : i < n
    · exact .inr ⟨wk.goes i H' lt (hG D i H' l r), R D (i + 1), fun H2 r2 => ⟨n - (i + 1), by omega, rfl, lt, r2⟩, fun x H2 y => hs D i x H' H2 nD lt r (wk.yields i H' x H2 lt (hG D i H' l r) y)⟩
    · obtain rfl : i = n := by omega
      exact .inl ⟨wk.stops H' (hG D i H' l r), hd D H' nD r⟩⟩
end
end PK

set_option Elab.async false
set_option linter.all false
set_option maxRecDepth 100000
/-! match on a tuple: a word first, then names. -/
namespace PK
open PySem L2 PyProof.Rows
/-- where the rest of a pattern's items go: nowhere, or to the name at this place -/
def gCaps : List (Option Nat) → List V → L2.St → L2.St
  | none :: g, _ :: vs, σ => gCaps g vs σ
  | some i :: g, v :: vs, σ => gCaps g vs (σ.set i (some v))
  | _, _, σ => σ
inductive Caps (X : Cx) : List Pattern → List (Option Nat) → Prop where
  | nil : Caps X [] []
  | skip {ps : List Pattern} {g : List (Option Nat)} {pos : Pos} : Caps X ps g → Caps X (.MatchAs none none pos :: ps) (none :: g)
  | name {ps : List Pattern} {g : List (Option Nat)} {pos : Pos} {x : Str} {i : Nat} : X.N[i]? = some x → X.env.scope.names.lookup x = some .local → Caps X ps g → Caps X (.MatchAs none (some x) pos :: ps) (some i :: g)
theorem Caps.length {X : Cx} : ∀ {ps : List Pattern} {g : List (Option Nat)}, Caps X ps g → g.length = ps.length
  | _, _, .nil => rfl
  | _, _, .skip c => by rw [List.length_cons, List.length_cons, c.length]
  | _, _, .name _ _ c => by rw [List.length_cons, List.length_cons, c.length]
theorem Caps.noStar {X : Cx} : ∀ {ps : List Pattern} {g : List (Option Nat)}, Caps X ps g → ps.findIdx? (·.isStar) = none
  | _, _, .nil => rfl
  | _, _, .skip c => by rw [List.findIdx?_cons, c.noStar]; rfl
  | _, _, .name _ _ c => by rw [List.findIdx?_cons, c.noStar]; rfl
/-- what the names of such a row get -/
def bound : List Pattern → List Value → List (Str × Value)
  | .MatchAs none n _ :: ps, u :: us => (n.map (·, u)).toList ++ bound ps us
  | _, _ => []
section
variable {X : Cx}
theorem Caps.each {A : Around} {E : Value → Shared → Prop} : ∀ {ps : List Pattern} {g : List (Option Nat)} {us : List Value} {s : Shared} {Q : Option (List (Str × Value)) → Shared → Prop}, Caps X ps g → us.length = ps.length →
    Q (some (bound ps us)) s → wpAny (model X.prog X.w) A (matchEach ps X.env us) Q E s
  | _, _, [], _, _, .nil, _, h => wpAny_matchEach_nil h
  | _, _, _ :: _, _, _, .nil, e, _ => by cases e
  | _, _, [], _, _, .skip _, e, _ => by cases e
  | _, _, [], _, _, .name _ _ _, e, _ => by cases e
  | _, _, u :: us, _, _, .skip c, e, h => wpAny_matchEach_cons (wpAny_matchPattern_Capture (c.each (by simpa using e) h))
  | _, _, u :: us, _, _, .name _ _ c, e, h => wpAny_matchEach_cons (wpAny_matchPattern_Capture (c.each (by simpa using e) h))
theorem Caps.store {pins : List (Addr × Obj)} {H : Hp} {A : Around} {E : Value → Shared → Prop} (hN : X.N.Nodup) : ∀ {ps : List Pattern} {g : List (Option Nat)} {vs : List V} {us : List Value} {σ : L2.St} {s : Shared} {Q : Unit → Shared → Prop}, Caps X ps g → Vals vs us → us.length = ps.length →
    Inv X pins σ H s → (∀ s', Inv X pins (gCaps g vs σ) H s' → Q () s') →
    wpAny (model X.prog X.w) A (assignInOrder ((bound ps us).map fun p => bindName X.env p.1) ((bound ps us).map (·.2))) Q E s
  | _, _, _, _, _, _, _, .nil, r, e, I, h => by
    cases r with
    | nil => exact assignInOrder_nil (h _ I)
    | cons _ _ => cases e
  | _, _, _, _, _, _, _, .skip c, r, e, I, h => by
    cases r with
    | nil => cases e
    | cons r1 r2 => exact c.store hN r2 (by simpa using e) I h
  | _, _, _, _, _, _, _, .name hi hl c, r, e, I, h => by
    cases r with
    | nil => cases e
    | cons r1 r2 =>
      exact assignInOrder_cons (wpAny_bindName (store_ok I hN hi (.inl hl) r1 (fun s' I' => c.store hN r2 (by simpa using e) I' h) (.inr hl)))
/-- the cases of a match, read of the subject's value -/
abbrev TC := V → TS
structure PCs (X : Cx) (cs : List MatchCase) (t : TC) : Prop where
  run : ∀ (pins : List (Addr × Obj)) (s : Shared) (σ : L2.St) (H : Hp) (v : V) (u : Value) (first : Bool) (D : Ends), Inv X pins σ H s → RelV v u → t v D σ H → wpAny (model X.prog X.w) X.A (matchCases cs X.env u first) (SP X pins D) X.xe s
def cNil : TC := fun _ D σ H => D.nx σ H
theorem pcs_nil : PCs X [] cNil := ⟨fun pins s σ H v u first D I r h => wpAny_matchCases_nil ⟨σ, H, I, h⟩⟩
/-- a word and names, of a tuple -/
def cWord (K : PySem.W.Frag) (r : R2) (w : Str) (g : List (Option Nat)) (t : TS) (tc : TC) : TC := fun v D σ H => ∃ a xs, v = .ref a ∧ SqT K H a xs ∧
  (if xs.length = g.length + 1 then ∀ x ys, xs = x :: ys → r x (.str w) H fun z H1 => ∃ c, z = .bl c ∧ if c = true then t D (gCaps g ys σ) H1 else tc v D σ H1 else tc v D σ H)
theorem pcs_word {w : Str} {ps : List Pattern} {g : List (Option Nat)} {body : List Stmt} {rest : List MatchCase} {t : TS} {tc : TC} {r : R2} {j : Nat} {p1 p2 p3 : Pos} (hN : X.N.Nodup) (hc : X.calm = true) (ho : OpR X (compareOp .Eq) r) (h1 : Caps X ps g) (h2 : PSs X body t) (h3 : PCs X rest tc) :
    PCs X (⟨.MatchSequence (.MatchValue (.Constant (.str w) j p1) p2 :: ps) p3, none, body⟩ :: rest) (cWord X.K r w g t tc) := by
  refine ⟨fun pins s σ H v u first D I rv h => ?_⟩
  obtain ⟨a, xs, rfl, hq, h⟩ := h
  cases rv
  obtain ⟨its, rv, ht, hz⟩ := I.tuple hq
  have hl := rv.length
  have hgl := h1.length
  have hfit : (its.toArray.size : Int) < 2 ^ 63 := by
    have : sizeLine < 2 ^ 63 := by decide
    simp only [List.size_toArray]
    omega
  have hst : ((Pattern.MatchValue (.Constant (.str w) j p1) p2) :: ps).findIdx? (·.isStar) = none := by rw [List.findIdx?_cons, h1.noStar]; rfl
  have hwd : (((Pattern.MatchValue (.Constant (.str w) j p1) p2) :: ps).all fun p => p.isWildcard || (p.isStar && p.names.isEmpty)) = false := by rw [List.all_cons]; rfl
  have I0 : ∀ t, Inv X pins σ H { s with toks := t } := fun t => I.tok _
  refine wpAny_matchCases_cons ?_
  by_cases hn : xs.length = g.length + 1
  · rw [if_pos hn] at h
    refine matchSeq_tuple_hit ht hfit (by simp only [List.size_toArray, List.length_cons]; omega) ?_ hst hwd
    have e0 : (Pattern.MatchValue (.Constant (.str w) j p1) p2 :: ps).length = its.toArray.size := by simp only [List.size_toArray, List.length_cons]; omega
    rw [e0]
    refine unpackItems_tuple (I.ok.hd hc) ht fun h' hx => ?_
    have I1 : Inv X pins σ H { s with heap := h', toks := s.toks + 1 + 1 } := I.kept (t' := s.toks + 1 + 1) fun b o e => hx b o (Nat.ne_of_lt (Heap.lt_size e)) e
    cases rv with
    | nil => simp at hn
    | cons rx ry =>
      rename_i x u1 ys us
      have h := h x ys rfl
      refine wpAny_matchEach_cons (wpAny_matchPattern_Value (Calls.Constant_str ?_))
      refine thn (ho pins _ σ H x (.str w) u1 _ _ (I1.tok _) rx ⟨_, rfl⟩ h) fun c s2 hz => ?_
      obtain ⟨z, H1, I2, rz, c, e, q⟩ := hz
      subst e
      cases rz
      refine wpAny_truthy_bool ?_
      have hl2 : us.length = ps.length := by simp only [List.length_cons] at hl hn; omega
      cases c with
      | true =>
        rw [if_pos rfl] at q
        refine h1.each hl2 ?_
        refine h1.store hN ry hl2 I2 fun s3 I3 => ?_
        exact h2.run pins s3 _ H1 D I3 q
      | false =>
        rw [if_neg (by decide)] at q
        exact h3.run pins s2 σ H1 (.ref a) _ _ D I2 rfl q
  · rw [if_neg hn] at h
    refine matchSeq_tuple_miss ht hfit (by simp only [List.size_toArray, List.length_cons]; omega) ?_ hst hwd
    exact h3.run pins _ σ H (.ref a) _ _ D (I0 _) rfl h
def tMatch (te : TE) (tc : TC) : TS := fun D σ H => te σ H fun v H1 => tc v D σ H1
theorem ps_match {e : Expr} {cs : List MatchCase} {te : TE} {tc : TC} {pos : Pos} (he : PE X e te) (hc : PCs X cs tc) : PS X (.Match e cs pos) (tMatch te tc) :=
  ⟨fun pins s σ H D I h => wpAny_Match (thn (he.run pins s σ H _ I h) fun u s1 ⟨v, H1, I1, r, q⟩ => hc.run pins s1 σ H1 v u true D I1 r q)⟩
end
end PK

set_option Elab.async false
set_option linter.all false
set_option maxRecDepth 100000
/-! t[::-1] of a short tuple. -/
namespace PK
open PySem L2 PySem.Spec PyProof.Rows HT
section
variable {prog : Program} {w : World} {A : Around} {E : Value → Shared → Prop} {s : Shared}
theorem back_parts {sl : Addr} {vs : Value} {n : Nat} {Q : Int × Int × Nat → Shared → Prop} (hs : s.heap.IsSliceOf sl .none .none vs) (pv : IsPart vs (some (-1))) (hn : n ≤ 2)
    (h : Q (((n : Int) - 1), -1, n) s) : wpAny (model prog w) A (Builtin.Slice.sliceApplied (.ref sl) (pure (n : Int))) Q E s := by
  obtain ⟨os, hos, hcs, hds⟩ := id hs
  unfold Builtin.Slice.sliceApplied Builtin.Slice.sliceFields
  refine wpAny_bind (wpAny_bind (wpAny_field hos hds (x := .none) rfl (wpAny_bind (wpAny_field hos hds (x := .none) rfl (wpAny_bind (wpAny_field hos hds (x := vs) rfl (wpAny_pure ?_)))))))
  refine wpAny_bind (slicePart_ pv ?_)
  show wpAny _ _ (if ((-1 : Int) == 0) = true then _ else _) _ _ s
  rw [if_neg (by decide)]
  refine wpAny_bind (slicePart_none (wpAny_bind (slicePart_none (wpAny_bind (wpAny_pure ?_)))))
  match n, hn with
  | 0, _ => exact wpAny_pure h
  | 1, _ => exact wpAny_pure h
  | 2, _ => exact wpAny_pure h
theorem back_item {t sl : Addr} {items : Array Value} {vs : Value} {Q : Value → Shared → Prop} (ht : IsTup s.heap t items) (hs : s.heap.IsSliceOf sl .none .none vs) (pv : IsPart vs (some (-1))) (hn : items.size ≤ 2)
    (h : Q (.ref s.heap.objs.size) { s with heap := s.heap.push { cls := .type "tuple", data := .seq items.toList.reverse.toArray } }) : wpAny (model prog w) A (getItem (.ref t) (.ref sl)) Q E s := by
  have hz : sizeOk (.seq items.toList.reverse.toArray) := by
    show items.toList.reverse.toArray.size ≤ sizeLine
    rw [List.size_toArray, List.length_reverse, Array.length_toList]
    have : 2 ≤ sizeLine := by decide
    omega
  obtain ⟨os, hos, hcs, hds⟩ := id hs
  have hTs : s.TypeIs (.ref sl) "slice" := ⟨os, hos, hcs⟩
  unfold getItem
  try with_reducible refine wpAny_holding ?_
  first | refine wpAny_bind (wpAny_pure ?_) | skip
  refine wpAny_bind (wpAny_sequenceKey ht.typeIs (by decide) ?_)
  refine wpAny_bind (wpAny_callSpecial?_slot (name := Str.ofString "__getitem__") ht.typeIs PyProof.Rows.slot_tuple_getitem
    (wpAny_call_entry PyProof.Rows.slot_tuple_getitem ht.typeIs entry_tuple_getitem ?_ (args_tuple_getitem _ _)))
  show wpAny _ _ (Builtin.Tuple.tupleItemsOf (.ref t) >>= _) _ _ s
  refine wpAny_bind (tupleItemsOf_ ht ?_)
  refine wpAny_bind (wpAny_typeOf hTs ?_)
  rw [if_pos (by decide)]
  refine wpAny_bind (back_parts hs pv hn ?_)
  show wpAny _ _ (if (((items.size : Int) - 1) == 0 && (-1 : Int) == 1 && items.size == items.size) = true then _ else _) _ _ s
  rw [if_neg (by rw [show ((-1 : Int) == 1) = false from rfl]; simp)]
  have e : ((List.range items.size).filterMap fun (m : Nat) => items[(((items.size : Int) - 1) + (m : Int) * -1).toNat]?).toArray = items.toList.reverse.toArray := by
    obtain ⟨its⟩ := items
    match its, hn with
    | [], _ => rfl
    | [a], _ => rfl
    | [a, b], _ => rfl
    | a :: b :: c :: r, h => simp at h
  rw [e]
  first
    | exact wpAny_bind (m := Builtin.Tuple.tupleExact _) (wpAny_newObj_type (wpAny_pure ⟨_, rfl, wpAny_pure h⟩) hz)
    | exact wpAny_bind (m := Builtin.Tuple.tupleExact _) (wpAny_newObj_type (wpAny_bind (wpAny_pure (wpAny_pure ⟨_, rfl, wpAny_pure h⟩))) hz)
    | exact wpAny_bind (wpAny_bind (m := Builtin.Tuple.tupleExact _) (wpAny_newObj_type (wpAny_pure (wpAny_pure ⟨_, rfl, wpAny_pure h⟩)) hz))
    | exact wpAny_bind (wpAny_bind (m := Builtin.Tuple.tupleExact _) (wpAny_newObj_type (wpAny_pure ⟨_, rfl, wpAny_pure h⟩) hz))
end
def tBack (K : PySem.W.Frag) (te : TE) : TE := fun σ H Q => te σ H fun x H1 => ∃ a xs, x = .ref a ∧ SqT K H1 a xs ∧ xs.length ≤ 2 ∧ ∀ p, H1 p = none → Q (.ref p) (upd H1 p (.tup xs.reverse))
theorem vals_back : ∀ {xs : List V} {us : List Value}, Vals xs us → Vals xs.reverse us.reverse
  | _, _, .nil => .nil
  | _, _, .cons r t => by
    rw [List.reverse_cons, List.reverse_cons]
    exact Vals.append (vals_back t) (.cons r .nil)
theorem pe_back {X : Cx} {e : Expr} {te : TE} {j : Nat} {p1 p2 p3 pos : Pos} (he : PE X e te) : PE X (.Subscript e (.Slice none none (some (.UnaryOp .USub (.Constant (.int 1) j p1) p2)) p3) pos) (tBack X.K te) := by
  refine ⟨fun pins s σ H Q I h => ?_⟩
  refine Subscript_ (thn (he.run pins s σ H _ I h) fun v s1 ⟨x, H1, I1, r1, q1⟩ => ?_)
  obtain ⟨a, xs, rfl, hx, hn, q1⟩ := q1
  cases r1
  have neg : PE X (.UnaryOp .USub (.Constant (.int 1) j p1) p2) (tUn _ (tC (.int 1))) := pe_un un_neg pe_int
  refine wpAny_Slice ?_
  rw [evalPart_none]
  refine wpAny_pure ?_
  refine wpAny_pure ?_
  rw [evalPart_some]
  refine thn (neg.run pins s1 σ H1 (fun z H2 => z = .int (-1) ∧ H2 = H1) I1 ⟨1, rfl, rfl, rfl⟩) fun vk s2 ⟨z, H2, I2, r2, e1, e2⟩ => ?_
  subst e1 e2
  obtain ⟨tk, rfl⟩ := r2
  have I4 : Inv X pins σ H2 { s2 with heap := s2.heap.push { cls := .type "slice", data := .fields #[.none, .none, .int (-1) tk] } } := I2.kept (t' := s2.toks) fun b ob q => Heap.get?_push_of_some _ q
  obtain ⟨its, r, ht, hz⟩ := I4.tuple hx
  have hl := r.length
  refine tail_any (ops := [.ref a, .ref s2.heap.objs.size]) ht.typeIs PyProof.Rows.slot_tuple_getitem.lookup ?_ (by with_unfolding_all rfl)
  refine back_item ht (Heap.IsSliceOf.new ..) (.int _ _) (by rw [List.size_toArray]; omega) ?_
  refine ⟨.ref _, _, I4.laid (t' := s2.toks) (o := .tup xs.reverse) (fun b ob q => Heap.get?_push_of_some _ q) (Nat.le_refl _) ?_, rfl, q1 _ (I4.hok.fresh (Nat.le_refl _))⟩
  refine ⟨by rw [List.length_reverse]; exact hz, its.reverse, vals_back r, ?_⟩
  exact IsTup.new _ _
end PK

set_option Elab.async false
set_option linter.all false
set_option maxRecDepth 100000
/-! Steps for match, for an own class's methods; events and timetables as data tells them. -/
namespace PK
open PySem L2
/-! ### match -/
section
variable {K : PySem.W.Frag} {σ : L2.St} {H : Hp} {D : Ends}
def isW (w : Str) (d : PyData) : Bool := PyData.eqv d (.str w)
theorem isW_str (w x : Str) : isW w (.str x) = decide (x = w) := by
  simp only [isW, PyData.eqv]
  exact Bool.beq_eq_decide_eq x w
theorem w_match {te : TE} {tc : TC} (k : te σ H fun v H1 => tc v D σ H1) : tMatch te tc D σ H := k
theorem c_nil {v : V} (k : D.nx σ H) : cNil v D σ H := k
theorem c_skip {r : R2} {w : Str} {g : List (Option Nat)} {t : TS} {tc : TC} {a : Addr} {xs : List V} (h : SqT K H a xs) (hn : xs.length ≠ g.length + 1) (k : tc (.ref a) D σ H) : cWord K r w g t tc (.ref a) D σ H :=
  ⟨a, xs, rfl, h, by rw [if_neg hn]; exact k⟩
theorem c_try {w : Str} {g : List (Option Nat)} {t : TS} {tc : TC} {a : Addr} {x : V} {ys : List V} {d : PyData} {n : Nat} (h : SqT K H a (x :: ys)) (hl : ys.length = g.length) (hd : Dp K H x d) (hf : Fine n d) (hn : n ≤ 63) (hw : PyData.strOk w = true)
    (k1 : isW w d = true → t D (gCaps g ys σ) H) (k2 : isW w d = false → tc (.ref a) D σ H) : cWord K (rEqD K) w g t tc (.ref a) D σ H := by
  refine ⟨a, x :: ys, rfl, h, ?_⟩
  rw [if_pos (by simp [hl])]
  intro x' ys' e
  cases e
  refine ⟨d, .str w, hd, .str w, hf.sh.shaped (by omega), (Sh.str (n := 0) hw).shaped (by omega), isW w d, rfl, ?_⟩
  cases q : isW w d with
  | true => rw [if_pos rfl]; exact k1 q
  | false => rw [if_neg (by decide)]; exact k2 q
/-- an event whose word is known -/
theorem c_yes {w : Str} {g : List (Option Nat)} {t : TS} {tc : TC} {a : Addr} {ys : List V} (h : SqT K H a (.str w :: ys)) (hl : ys.length = g.length) (hw : PyData.strOk w = true) (k : t D (gCaps g ys σ) H) : cWord K (rEqD K) w g t tc (.ref a) D σ H :=
  c_try (n := 0) (d := .str w) h hl (.str w) hw (by omega) hw (fun _ => k) fun q => by
    rw [isW_str] at q
    simp at q
theorem c_not {w u : Str} {g : List (Option Nat)} {t : TS} {tc : TC} {a : Addr} {ys : List V} (h : SqT K H a (.str u :: ys)) (ho : PyData.strOk u = true) (hw : PyData.strOk w = true) (ne : ¬ u = w) (k : tc (.ref a) D σ H) : cWord K (rEqD K) w g t tc (.ref a) D σ H := by
  by_cases hl : ys.length = g.length
  · exact c_try (n := 0) (d := .str u) h hl (.str u) ho (by omega) hw (fun q => by
      rw [isW_str] at q
      exact (ne (of_decide_eq_true q)).elim) fun _ => k
  · exact c_skip h (by simp [hl]) k
end
theorem w_ixS {K : PySem.W.Frag} {H : Hp} {Q : VK} {v : V} {p : Addr} {xs : List V} {i : Int} (h : SqT K H p xs) (hx : atI xs i = some v) (k : Q v H) : rIxT K (.ref p) (.int i) H Q := ⟨p, xs, i, v, rfl, rfl, h, hx, k⟩
theorem WK.w_chain {r r' : R2} {ta tb tc : TE} {σ : L2.St} {H : Hp} {Q : VK} (k : ta σ H fun x H1 => tb σ H1 fun y H2 => r x y H2 fun z H3 => ∃ k, z = .bl k ∧ (if k = true then tc σ H3 fun w' H4 => r' y w' H4 Q else Q (.bl false) H3)) : tChain r r' ta tb tc σ H Q := k
/-! ### an own class -/
structure DfM (K : PySem.W.Frag) (C : Addr) (m q : Str) (st : Stmt) (ps : List Str) : Prop where
  ex : ∃ f fd, Fun K m q st f fd ∧ Meth K C m f ∧ Binds K fd ps []
structure DfI (K : PySem.W.Frag) (mg : Str → Option Value) (C : Addr) (x q : Str) (st : Stmt) (ps : List Str) : Prop where
  ex : ∃ f fd, Fun K "__init__" q st f fd ∧ Mk K C f ∧ mg x = some (.ref C) ∧ Binds K fd ps []
structure HasM (P : Program) (w : World) (K : PySem.W.Frag) (mg : Str → Option Value) (base : Heap) (C : Addr) (k : Nat) (m : Str) (ps : List Str) (sp : Sp) : Prop where
  ex : ∃ f fd, FnOk P w K mg base CX0 k f fd ps sp ∧ Meth K C m f ∧ Binds K fd ps []
structure HasI (P : Program) (w : World) (K : PySem.W.Frag) (mg : Str → Option Value) (base : Heap) (C : Addr) (k : Nat) (x : Str) (ps : List Str) (sp : Sp) : Prop where
  ex : ∃ f fd, FnOk P w K mg base CX0 k f fd ps sp ∧ Mk K C f ∧ mg x = some (.ref C) ∧ Binds K fd ps []
section
variable {P : Program} {w : World} {K : PySem.W.Frag} {mg : Str → Option Value} {base : Heap} {C : Addr}
theorem HasM.mk' {k : Nat} {m q : Str} {st : Stmt} {ps : List Str} {sp : Sp} (D : DfM K C m q st ps) (h : ∀ f fd, Fun K m q st f fd → FnOk P w K mg base CX0 k f fd ps sp) : HasM P w K mg base C k m ps sp := by
  obtain ⟨f, fd, F, r⟩ := D.ex
  exact ⟨f, fd, h f fd F, r⟩
theorem HasI.mk' {k : Nat} {x q : Str} {st : Stmt} {ps : List Str} {sp : Sp} (D : DfI K mg C x q st ps) (h : ∀ f fd, Fun K "__init__" q st f fd → FnOk P w K mg base CX0 k f fd ps sp) : HasI P w K mg base C k x ps sp := by
  obtain ⟨f, fd, F, r⟩ := D.ex
  exact ⟨f, fd, h f fd F, r⟩
end
theorem pe_fldK {X : Cx} {K : PySem.W.Frag} {e : Expr} {f : Str} {pos : Pos} {ta : TE} (he : PE X e ta) (hb : attributeBase e f X.env (eval e X.env) = eval e X.env) (hK : X.K = K := by rfl) : PE X (.Attribute e f pos) (tFld K ta f) := by subst hK; exact pe_fld he hb
section
variable {X : Cx} {C : Addr} {k : Nat} {x m : Str} {ps : List Str} {sp : Sp} {o e : Expr} {es : List Expr} {apos pos p : Pos} {ta : TE} {t : TA}
theorem pe_methH {pl : Sem Bool} (he : PE X o ta) (D : HasM X.prog X.w X.K X.mg X.base C k m ps sp) (c : Cls X.K C) (hr : Room k X.A) (ha : PA X (e :: es) t)
    (hst : starEach (e :: es) X.env = (false, eval e X.env) :: starEach es X.env := by rfl) (hpl : (backTo pos (starEach es X.env)).any (·.1) = false := by rfl)
    (ht : eval (.Call (.Attribute o m apos) (e :: es) [] pos) X.env = (do
      let ov ← eval o X.env
      standAt apos.atName
      let (f, first) ← holding [ov] (getMethod ov m pl)
      callWith pos f first (backTo pos (starEach (e :: es) X.env)) (backToKw pos (keywordEach [] X.env))) := by rfl) :
    PE X (.Call (.Attribute o m apos) (e :: es) [] pos) (tMeth C m sp [] E0 ta t) := by
  obtain ⟨f, fd, F, me, b⟩ := D.ex
  exact pe_meth he c me F hr b .nil pass0 ha hst hpl ht
theorem pe_meth0H {pl : Sem Bool} (he : PE X o ta) (D : HasM X.prog X.w X.K X.mg X.base C k m ps sp) (c : Cls X.K C) (hr : Room k X.A)
    (ht : eval (.Call (.Attribute o m apos) [] [] pos) X.env = (do
      let ov ← eval o X.env
      standAt apos.atName
      let (f, first) ← holding [ov] (getMethod ov m pl)
      callWith pos f first (backTo pos (starEach [] X.env)) (backToKw pos (keywordEach [] X.env))) := by rfl) :
    PE X (.Call (.Attribute o m apos) [] [] pos) (tMeth C m sp [] E0 ta tNil) := by
  obtain ⟨f, fd, F, me, b⟩ := D.ex
  exact pe_meth0 he c me F hr b .nil pass0 ht
theorem pe_makeH (D : HasI X.prog X.w X.K X.mg X.base C k x ps sp) (hr : Room (k + 1) X.A) (hg : Gl X x) (hdb : (x == ("__debug__" : Str)) = false := by decide) : PE X (.Call (.Name x p) [] [] pos) (tMake C sp [] E0 tNil) := by
  obtain ⟨f, fd, F, M, m, b⟩ := D.ex
  exact pe_make0 M F hr hg m b .nil pass0 hdb
end
/-! ### data that the law draws: not deep, not long -/
def Fb : Nat → PyData → Prop
  | _, .none => True
  | _, .bool _ => True
  | _, .int _ => True
  | _, .str x => PyData.strOk x = true ∧ x.length ≤ 1000
  | n + 1, .list ds => ds.length ≤ 1000 ∧ ∀ d ∈ ds, Fb n d
  | n + 1, .tuple ds => ds.length ≤ 1000 ∧ ∀ d ∈ ds, Fb n d
  | _, _ => False
theorem Fb.fine : ∀ {n : Nat} {d : PyData}, Fb n d → Fine n d
  | 0, .none, _ => trivial
  | 0, .bool b, _ => trivial
  | 0, .int i, _ => trivial
  | 0, .str x, h => h.1
  | 0, .list _, h => h.elim
  | 0, .tuple _, h => h.elim
  | 0, .dict _, h => h.elim
  | n + 1, .none, _ => trivial
  | n + 1, .bool b, _ => trivial
  | n + 1, .int i, _ => trivial
  | n + 1, .str x, h => h.1
  | n + 1, .list ds, h => ⟨h.1, fun d hd => (h.2 d hd).fine⟩
  | n + 1, .tuple ds, h => ⟨h.1, fun d hd => (h.2 d hd).fine⟩
  | n + 1, .dict _, h => h.elim
theorem Fb.up : ∀ {n : Nat} {d : PyData}, Fb n d → Fb (n + 1) d
  | 0, .none, _ => trivial
  | 0, .bool b, _ => trivial
  | 0, .int i, _ => trivial
  | 0, .str x, h => h
  | 0, .list _, h => h.elim
  | 0, .tuple _, h => h.elim
  | 0, .dict _, h => h.elim
  | n + 1, .none, _ => trivial
  | n + 1, .bool b, _ => trivial
  | n + 1, .int i, _ => trivial
  | n + 1, .str x, h => h
  | n + 1, .list ds, h => ⟨h.1, fun d hd => (h.2 d hd).up⟩
  | n + 1, .tuple ds, h => ⟨h.1, fun d hd => (h.2 d hd).up⟩
  | n + 1, .dict _, h => h.elim
/-- a test of one value of such data -/
def spAsk (K : PySem.W.Frag) (f : PyData → Bool) (n : Nat) : Sp := fun vs H Q _ => ∃ (v : V) (d : PyData), vs = [v] ∧ Dp K H v d ∧ Fb n d ∧ ∀ H', Gr [] H H' → Q (.bl (f d)) H'
end PK

namespace PK
open PySem L2
def topS (i : Nat) : Stmt := PySem.Challenge.pw_missedmarks_k00_events_and_timetables_or.main.body.getD i (.Pass ⟨0, 0, 0, 0⟩)
structure Txt (mg : Str → Option Value) : Prop where
  m_abs : mg "abs" = none
  m_all : mg "all" = none
  m_bool : mg "bool" = none
  m_enumerate : mg "enumerate" = none
  m_int : mg "int" = none
  m_isinstance : mg "isinstance" = none
  m_len : mg "len" = none
  m_list : mg "list" = none
  m_min : mg "min" = none
  m_range : mg "range" = none
  m_set : mg "set" = none
  m_sorted : mg "sorted" = none
  m_str : mg "str" = none
  m_sum : mg "sum" = none
  m_tuple : mg "tuple" = none
  m_zip : mg "zip" = none
end PK
set_option pp.maxSteps 700
local macro_rules | `(tactic| walk_at "c") => `(tactic| (first | assumption | omega | decide | (dsimp only; done) | (dsimp only; first | assumption | omega | decide) | (unfold L2.CMul; omega) | (unfold L2.CDiv; omega) | (unfold L2.CPow; omega) | (unfold L2.CPow; exact ⟨by decide, by decide, by omega⟩)))
local macro_rules | `(tactic| walk_at "w") => `(tactic| (repeat (first
  | dsimp only
  | with_reducible first
    | apply WK.w_seq | apply WK.w_asg | apply WK.w_name | apply WK.w_gsub | apply WK.w_drop | apply WK.w_ret | apply WK.w_par | apply WK.w_par3 | apply WK.w_next
    | apply WK.w_c | apply WK.w_op | apply WK.w_un | apply WK.w_I0 | apply WK.w_U | apply WK.w_eqI | apply WK.w_neI | apply WK.w_eqS | apply WK.w_neS | apply WK.w_eqB | apply WK.w_neB
    | apply WK.w_T | apply WK.w_B | apply WK.w_not | apply WK.w_notV
    | apply WK.w_nil | apply WK.w_cons | apply WK.w_call | apply WK.w_cb | apply WK.w_tup | apply WK.w_lst | apply WK.w_bm | apply WK.w_bm0 | apply WK.w_dget | apply WK.w_din | apply WK.w_dnotin | apply WK.w_dput | apply WK.w_sl | apply WK.w_noPart | apply WK.w_part | apply WK.w_yes
    | apply PK.w_for | apply PK.w_rng1 | apply PK.w_itL | apply PK.w_itT | apply PK.w_itS | apply PK.w_enT | apply PK.w_zipA | apply WK.w_gcons | apply WK.w_gnil | apply WK.w_yes | apply PK.w_lc | apply PK.w_exR
    | apply WK.w_or1 | apply WK.w_or2 | apply WK.w_ex1 | apply WK.w_ex2 | apply WK.w_rfl | apply WK.w_pr2 | apply WK.w_pr3 | apply WK.w_ex | apply WK.w_exI | apply WK.w_bl
  | (with_reducible refine' WK.w_var ?h1 ?_); (case h1 => exact rfl)
  | (with_reducible refine' WK.w_I ?h1 ?_); (case h1 => walk_at "c")
  | (with_reducible refine' PK.w_len ?h1 ?_); (case h1 => assumption)
  | (with_reducible refine' WK.w_ix ?h1 ?h2 ?_); (case h1 => first | assumption | exact L2.upd_same); (case h2 => rfl)
  | (with_reducible refine' WK.w_ixT ?h1 ?h2 ?_); (case h1 => first | assumption | exact L2.upd_same); (case h2 => rfl)
  | (with_reducible refine' WK.w_inT ?h1 ?h2 ?h3 ?_); (case h1 => first | assumption | exact L2.upd_same); (case h2 => rfl); (case h3 => rfl)
  | (with_reducible refine' WK.w_ninT ?h1 ?h2 ?h3 ?_); (case h1 => first | assumption | exact L2.upd_same); (case h2 => rfl); (case h3 => rfl)
  | (with_reducible refine' WK.w_gtup ?h1 ?h2 ?_); (case h1 => first | assumption | exact L2.upd_same); (case h2 => rfl)
  | (with_reducible refine' WK.w_set ?h1 ?h2 ?_); (case h1 => first | assumption | exact L2.upd_same); (case h2 => rfl))))
local macro_rules | `(tactic| walk_at "i") => `(tactic| ((with_reducible first | apply WK.w_if | apply WK.w_ifE | apply WK.w_andV | apply WK.w_orV | apply WK.w_and | apply WK.w_or); walk_at "w"))
local macro_rules | `(tactic| walk_at "2") => `(tactic| (first | refine WK.w_2 (fun h => ?_) (fun h => ?_) | refine WK.w_2n (fun h => ?_) (fun h => ?_) | refine L2.ite2 (fun h => ?_) (fun h => ?_)))
local macro_rules | `(tactic| walk_at "k") => `(tactic| (dsimp only [PK.tyN]; decide +kernel))
namespace PK
open PySem L2
section
variable {P : Program} {w : World} {K : PySem.W.Frag} {mg : Str → Option Value} {base : Heap}
abbrev s_law_take : Stmt := topS 11
abbrev N_law_take : List Str := ["_law_box_here", "_law_below", "_law_once", "_law_odd", "_law_found"]
abbrev ps_law_take : List Str := ["_law_box_here", "_law_below"]
theorem sc_law_take : FnScope N_law_take ps_law_take (defScope s_law_take) := ⟨rfl, rfl, rfl, by decide +kernel, rfl, by decide +kernel, by decide +kernel⟩
def spTake : Sp := fun vs H Q _ => ∃ (b : Addr) (m : Int) (n : Nat), vs = [.ref b, .int m] ∧ Bx H b (n + 1) ∧ 0 < m ∧ m ≤ 1000000 ∧
  ∀ (r : Int) (H' : Hp), 0 ≤ r → r < m → Gr [b] H H' → Bx H' b n → Q (.int r) H'
theorem has_take (D : Df K mg "_law_take" s_law_take ps_law_take) (T : Txt mg) : Has P w K mg base 1 "_law_take" ps_law_take spTake := Has.mk' D fun f fd F => by
  refine F.ok sc_law_take (fun vs H Q E h => ?_) (fun cdv A outer s H vs Q E hr h => ?_)
  · obtain ⟨b, m, n, rfl, _⟩ := h
    rfl
  · obtain ⟨b, m, n, rfl, ⟨x, sd, c, hb, x0, s0, s1, c0, c1⟩, m0, m1, q⟩ := h
    refine ⟨_, (pss_cons (ps_if (pt_cmpR op_gt (pe_ix (ix_listK (K := K)) (pv 0) pe_int (fun _ _ => rfl)) pe_int (nomark _))
  (pss_cons (ps_set (i := 4) sc_law_take.nd rfl (Or.inl rfl) (pe_op op_mod (pe_callTy call_int1 (by rfl) T.m_int (by decide +kernel) (pa_cons (pe_ix (ix_listK (K := K)) (pv 0) pe_int (fun _ _ => rfl)) pa_nil)) (pv 1)))
  (pss_cons (ps_asg (pe_op op_fdivW (pe_ix (ix_listK (K := K)) (pv 0) pe_int (fun _ _ => rfl)) (pv 1)) (pg_sub (pv 0) pe_int set_list))
  (pss_one (ps_ret (pv 4)))))
  pss_nil)
(pss_cons (ps_asg (pe_op op_add (pe_ix (ix_listK (K := K)) (pv 0) pe_int (fun _ _ => rfl)) pe_int) (pg_sub (pv 0) pe_int set_list))
(pss_cons (ps_set (i := 2) sc_law_take.nd rfl (Or.inl rfl) (pe_op op_mod (pe_callTy call_int1 (by rfl) T.m_int (by decide +kernel) (pa_cons (pe_op op_pow (pe_op op_add (pe_ix (ix_listK (K := K)) (pv 0) pe_int (fun _ _ => rfl)) (pe_op op_mul pe_int (pe_ix (ix_listK (K := K)) (pv 0) pe_int (fun _ _ => rfl)))) pe_int) pa_nil)) pe_int))
(pss_cons (ps_set (i := 3) sc_law_take.nd rfl (Or.inl rfl) (pe_op op_add (pe_op op_mod (pe_callTy call_int1 (by rfl) T.m_int (by decide +kernel) (pa_cons (pv 2) pa_nil)) pe_int) pe_int))
(pss_one (ps_ret (pe_op op_mod (pe_callTy call_int1 (by rfl) T.m_int (by decide +kernel) (pa_cons (pe_op op_fdiv (pe_op op_mod (pe_callTy call_int1 (by rfl) T.m_int (by decide +kernel) (pa_cons (pe_op op_add (pe_op op_mulW (pv 2) (pv 3)) (pe_op op_mul (pe_ix (ix_listK (K := K)) (pv 0) pe_int (fun _ _ => rfl)) pe_int)) pa_nil)) pe_int) pe_int) pa_nil)) (pv 1)))))))), ?_⟩
    walk_at "w"
    walk_at "i"
    refine ite2 (fun hx => ?_) (fun hx => ?_)
    · walk_at "w"
      refine WK.w_I (wide_div (b := 64) m0 (by omega) (by decide) (by decide)) ?_
      walk_at "w"
      exact q _ _ (Int.emod_nonneg _ (by omega)) (Int.emod_lt_of_pos _ m0) (Gr.mutL hb (by simp)) ⟨x / m, sd, c, upd_same, Int.ediv_nonneg x0 (by omega), s0, s1, c0, by omega⟩
    · walk_at "w"
      refine WK.w_I (wide_mul (a := 32) (b := 32) (by omega) (by omega) (by decide) (by decide) (by decide)) ?_
      walk_at "w"
      exact q _ _ (Int.emod_nonneg _ (by omega)) (Int.emod_lt_of_pos _ m0) (Gr.mutL hb (by simp)) ⟨x, sd, c + 1, upd_same, x0, s0, s1, by omega, by omega⟩
theorem use_take {H : Hp} {Q : VK} {E : XK} {b : Addr} {m : Int} {n : Nat} (hb : Bx H b (n + 1)) (h0 : 0 < m) (h1 : m ≤ 1000000) (k : ∀ (r : Int) (H' : Hp), 0 ≤ r → r < m → Gr [b] H H' → Bx H' b n → Q (.int r) H') : spTake [.ref b, .int m] H Q E := ⟨b, m, n, rfl, hb, h0, h1, k⟩

end
end PK
namespace PK
open PySem L2
section
variable {P : Program} {w : World} {K : PySem.W.Frag} {mg : Str → Option Value} {base : Heap}
abbrev s_law_box : Stmt := topS 10
abbrev N_law_box : List Str := ["_law_script", "_law_k", "_law_cell", "_law_seed"]
abbrev ps_law_box : List Str := ["_law_script", "_law_k"]
theorem sc_law_box : FnScope N_law_box ps_law_box (defScope s_law_box) := ⟨rfl, rfl, rfl, by decide +kernel, rfl, by decide +kernel, by decide +kernel⟩
def spBox (K : PySem.W.Frag) : Sp := fun vs H Q _ => ∃ (a : Addr) (ns : List Int) (i : Nat), vs = [.ref a, .int i] ∧ SqL K H a (ns.map V.int) ∧ ns.length ≤ 63 ∧ i ≤ 3 ∧
  ∀ (b : Addr) (H' : Hp), H b = none → Gr [] H H' → Bx H' b 900000 → Q (.ref b) H'
theorem has_box (D : Df K mg "_law_box" s_law_box ps_law_box) (T : Txt mg) : Has P w K mg base 1 "_law_box" ps_law_box (spBox K) := Has.mk' D fun f fd F => by
  refine F.ok sc_law_box (fun vs H Q E h => ?_) (fun cdv A outer s H vs Q E hr h => ?_)
  · obtain ⟨b, m, n, rfl, _⟩ := h
    rfl
  · obtain ⟨a, ns, i, rfl, hs, hl, hi, q⟩ := h
    refine ⟨_, (pss_cons (ps_set (i := 2) sc_law_box.nd rfl (Or.inl rfl) (pe_ifExp (pt_cmpR op_lt (pv 1) (pe_callB (call_len_seqK (K := K)) (by rfl) T.m_len (by decide +kernel) (pa_cons (pv 0) pa_nil)) (nomark _)) (pe_ix (ix_listK (K := K)) (pv 0) (pv 1) (fun _ _ => rfl)) pe_int))
(pss_cons (ps_set (i := 3) sc_law_box.nd rfl (Or.inl rfl) (pe_op op_mod (pe_callTy call_int1 (by rfl) T.m_int (by decide +kernel) (pa_cons (pe_op op_mul (pe_op op_add (pe_op op_add (pe_op op_mod (pe_callTy call_int1 (by rfl) T.m_int (by decide +kernel) (pa_cons (pv 2) pa_nil)) pe_int) (pe_op op_mul pe_int (pv 1))) pe_int) pe_int) pa_nil)) pe_int))
(pss_one (ps_ret (pe_lst (pa_cons (pe_op op_mul (pe_callB call_abs (by rfl) T.m_abs (by decide +kernel) (pa_cons (pv 2) pa_nil)) (pe_callTy call_int1 (by rfl) T.m_int (by decide +kernel) (pa_cons (pe_cmpR op_ge (pe_callB call_abs (by rfl) T.m_abs (by decide +kernel) (pa_cons (pv 2) pa_nil)) (pe_op op_pow pe_int pe_int) (nomark _)) pa_nil))) (pa_cons (pv 3) (pa_cons pe_int pa_nil)))))))), ?_⟩
    walk_at "w"
    refine WK.w_gen (fun v H' => H' = H ∧ ∃ z, v = V.int z) ?_ (fun Q0 q0 => ?_)
    · rintro _ _ ⟨rfl, z, rfl⟩
      walk_at "w"
      generalize hx : (if z < 0 then -z else z) = x
      generalize hk : (if decide ((10 : Int) ^ Int.toNat 18 ≤ x) = true then (1 : Int) else 0) = y
      have x0 : 0 ≤ x := by rw [← hx]; split <;> omega
      have y0 : 0 ≤ y ∧ y ≤ 1 := by rw [← hk]; split <;> omega
      have hm : CMul x y := .inr ⟨by omega, by omega⟩
      walk_at "w"
      refine ⟨by show 3 ≤ sizeLine; decide, fun b nb => q b _ nb (Gr.new nb) ⟨x * y, _, 0, upd_same, Int.mul_nonneg x0 y0.1, Int.emod_nonneg _ (by omega), Int.emod_lt_of_pos _ (by omega), by omega, by omega⟩⟩
    walk_at "i"
    refine ⟨a, _, rfl, .inl hs, ?_⟩
    walk_at "w"
    refine WK.w_2 (fun h => ?_) (fun h => ?_)
    · walk_at "w"
      rw [List.length_map] at h
      have e : ns[i]? = some ns[i] := List.getElem?_eq_getElem (by omega)
      exact ⟨a, _, i, .int ns[i], rfl, rfl, hs, atI_nat (by rw [List.getElem?_map, e]; rfl), q0 _ _ ⟨rfl, _, rfl⟩⟩
    · walk_at "w"
      exact q0 _ _ ⟨rfl, _, rfl⟩

end
end PK
namespace PK
open PySem L2
section
variable {P : Program} {w : World} {K : PySem.W.Frag} {mg : Str → Option Value} {base : Heap}
abbrev s_law_of : Stmt := topS 12
abbrev N_law_of : List Str := ["_law_box_here", "_law_some"]
abbrev ps_law_of : List Str := ["_law_box_here", "_law_some"]
theorem sc_law_of : FnScope N_law_of ps_law_of (defScope s_law_of) := ⟨rfl, rfl, rfl, by decide +kernel, rfl, by decide +kernel, by decide +kernel⟩
def spOf : Sp := fun vs H Q _ => ∃ (b l : Addr) (xs : List V) (n : Nat), vs = [.ref b, .ref l] ∧ Bx H b (n + 1) ∧ H l = some (.lst xs) ∧ l ≠ b ∧ xs ≠ [] ∧ xs.length ≤ 1000 ∧
  ∀ (j : Nat) (x : V) (H' : Hp), xs[j]? = some x → Gr [b] H H' → Bx H' b n → Q x H'
theorem has_of (D : Df K mg "_law_of" s_law_of ps_law_of) (T : Txt mg) (G_law_take : Has P w K mg base 1 "_law_take" ps_law_take spTake) : Has P w K mg base 2 "_law_of" ps_law_of spOf := Has.mk' D fun f fd F => by
  refine F.ok sc_law_of (fun vs H Q E h => ?_) (fun cdv A outer s H vs Q E hr h => ?_)
  · obtain ⟨b, l, xs, n, rfl, _⟩ := h
    rfl
  · obtain ⟨b, l, xs, n, rfl, hb, hl, nb, ne, hz, q⟩ := h
    refine ⟨_, (pss_one (ps_ret (pe_ix (ix_listK (K := K)) (pv 1) (pe_callH G_law_take (hr.mono (by decide)) (by rfl) (pa_cons (pv 0) (pa_cons (pe_callB (call_len_seqK (K := K)) (by rfl) T.m_len (by decide +kernel) (pa_cons (pv 1) pa_nil)) pa_nil))) (fun _ _ => rfl)))), ?_⟩
    walk_at "w"
    have l0 : 0 < xs.length := List.length_pos_iff.mpr ne
    refine ⟨b, _, n, rfl, hb, by omega, by omega, fun r H1 r0 r1 g hb1 => ?_⟩
    have e : xs[r.toNat]? = some xs[r.toNat] := List.getElem?_eq_getElem (by omega)
    exact ⟨l, xs, r, _, rfl, rfl, SqL.of (g.k1 hl nb), at_of (by omega) e, q _ _ _ e g hb1⟩
theorem use_of {H : Hp} {Q : VK} {E : XK} {b l : Addr} {xs : List V} {n : Nat} (hb : Bx H b (n + 1)) (hl : H l = some (.lst xs)) (nb : l ≠ b) (ne : xs ≠ []) (hz : xs.length ≤ 1000) (k : ∀ (j : Nat) (x : V) (H' : Hp), xs[j]? = some x → Gr [b] H H' → Bx H' b n → Q x H') : spOf [.ref b, .ref l] H Q E := ⟨b, l, xs, n, rfl, hb, hl, nb, ne, hz, k⟩

end
end PK
namespace PK
open PySem L2
section
variable {P : Program} {w : World} {K : PySem.W.Frag} {mg : Str → Option Value} {base : Heap}
abbrev s_law_event : Stmt := topS 14
abbrev N_law_event : List Str := ["_law_box_here", "_law_w", "_law_folk", "_law_names", "_law_words", "_law_way", "_law_p", "_law_key_so", "_law_gap"]
abbrev ps_law_event : List Str := ["_law_box_here", "_law_w", "_law_folk", "_law_names", "_law_words"]
theorem sc_law_event : FnScope N_law_event ps_law_event (defScope s_law_event) := ⟨rfl, rfl, rfl, by decide +kernel, rfl, by decide +kernel, by decide +kernel⟩
def spEvent : Sp := fun vs H Q _ => ∃ (b w sd cl nl : Addr) (st : WS) (n m : Nat) (folk : Int) (names : List Str) (words : Str), vs = [.ref b, .ref w, .int folk, .ref nl, .str words] ∧
  Bx H b (m + 5) ∧ WAt H w sd cl st n ∧ n ≤ 1000 ∧ b ≠ cl ∧ 1 ≤ folk ∧ folk ≤ 4 ∧ H nl = some (.lst (names.map V.str)) ∧ nl ≠ b ∧ names ≠ [] ∧ names.length ≤ 100 ∧ (∀ k ∈ names, KeyOk k) ∧ 0 < words.length ∧ words.length ≤ 100 ∧ 0 ≤ st.many ∧ st.many ≤ 1000 ∧ (∀ r p, st.seats r = some p → 0 ≤ p) ∧
  ∀ (v : V) (H' : Hp), Gr [b] H H' → Bx H' b m → (v = .non ∨ ∃ e : Ev, IsEv H' v e ∧ st.fits e ∧ e.ok) → Q v H'
theorem has_event (D : Df K mg "_law_event" s_law_event ps_law_event) (T : Txt mg) (G_law_take : Has P w K mg base 1 "_law_take" ps_law_take spTake) (G_law_of : Has P w K mg base 2 "_law_of" ps_law_of spOf) :
    Has P w K mg base 3 "_law_event" ps_law_event spEvent := Has.mk' D fun f fd F => by
  refine F.ok sc_law_event (fun vs H Q E h => ?_) (fun cdv A outer s H vs Q E hr h => ?_)
  · obtain ⟨b, w, sd, cl, nl, st, n, m, folk, names, words, rfl, _⟩ := h
    rfl
  · obtain ⟨b, wa, sd, cl, nl, st, n, m, folk, names, words, rfl, hb, hw, hn, nbc, f1, f2, hnl, nnb, ne, nlen, hkeys, wl0, wl1, m0, m1, hsp, q⟩ := h
    have hwz : words.length ≤ sizeLine := Nat.le_trans wl1 (by decide)
    obtain ⟨bl, hbl⟩ := hb.lst
    have nbw : b ≠ wa := ne_of hbl hw.w (by intro z; cases z)
    have nbs : b ≠ sd := by
      obtain ⟨kvs, ks, hs, _⟩ := hw.s
      exact ne_of hbl hs (by intro z; cases z)
    refine ⟨_, (pss_cons (ps_par3 (i := 5) (j := 6) (l := 7) (by rfl) sc_law_event.nd rfl rfl rfl (by decide) (by decide) (by decide) rfl rfl rfl (pa_cons (pe_ix ix_str (pv 4) (pe_callH G_law_take (hr.mono (by decide)) (by rfl) (pa_cons (pv 0) (pa_cons (pe_callB call_len_str (by rfl) T.m_len (by decide +kernel) (pa_cons (pv 4) pa_nil)) pa_nil))) (fun _ _ => rfl)) (pa_cons (pe_callH G_law_take (hr.mono (by decide)) (by rfl) (pa_cons (pv 0) (pa_cons (pv 2) pa_nil))) (pa_cons (pe_callH G_law_of (hr.mono (by decide)) (by rfl) (pa_cons (pv 0) (pa_cons (pv 3) pa_nil))) pa_nil))) (by rfl))
(pss_cons (ps_if (pt_cmpR op_eq (pv 5) pe_str (nomark _))
  (pss_one (ps_ret (pe_tup (pa_cons pe_str (pa_cons (pv 7) (pa_cons (pe_callH G_law_take (hr.mono (by decide)) (by rfl) (pa_cons (pv 0) (pa_cons pe_int pa_nil))) pa_nil))))))
  pss_nil)
(pss_cons (ps_if (pt_cmpR (op_in_seqK (K := K)) (pv 5) (pe_tup (pa_cons pe_str (pa_cons pe_str pa_nil))) (by rfl))
  (pss_one (ps_ret (pe_ifExp (pt_cmpR op_eq (pv 5) pe_str (nomark _)) (pe_tup (pa_cons pe_str (pa_cons (pv 7) pa_nil))) (pe_tup (pa_cons pe_str pa_nil)))))
  pss_nil)
(pss_cons (ps_if (pt_cmpR op_eq (pv 5) pe_str (nomark _))
  (pss_one (ps_ret (pe_tup (pa_cons pe_str (pa_cons (pv 6) pa_nil)))))
  pss_nil)
(pss_cons (ps_if (pt_cmpR op_eq (pv 5) pe_str (nomark _))
  (pss_one (ps_ret (pe_ifExp (pt_cmpR (op_neDK (K := K) hr.units) (pe_dget (hu_of hr) (pv 1) pe_str (fun _ _ => rfl)) (pe_lst pa_nil) (nomark _)) (pe_tup (pa_cons pe_str (pa_cons (pv 6) (pa_cons (pe_callH G_law_take (hr.mono (by decide)) (by rfl) (pa_cons (pv 0) (pa_cons (pe_callB (call_len_seqK (K := K)) (by rfl) T.m_len (by decide +kernel) (pa_cons (pe_dget (hu_of hr) (pv 1) pe_str (fun _ _ => rfl)) pa_nil)) pa_nil))) pa_nil)))) pe_non)))
  pss_nil)
(pss_cons (ps_if (pt_cmp (pc_dnotin (hu_of hr) (pv 6) (pe_dget (hu_of hr) (pv 1) pe_str (fun _ _ => rfl))))
  (pss_one (ps_ret (pe_tup (pa_cons pe_str (pa_cons (pv 6) pa_nil)))))
  pss_nil)
(pss_cons (ps_if (pt_cmpR op_eq (pv 5) pe_str (nomark _))
  (pss_one (ps_ret (pe_tup (pa_cons pe_str (pa_cons (pv 6) pa_nil)))))
  pss_nil)
(pss_cons (ps_set (i := 8) sc_law_event.nd rfl (Or.inl rfl) (pe_op op_sub (pe_dget (hu_of hr) (pv 1) pe_str (fun _ _ => rfl)) (pe_dget (hu_of hr) (pe_dget (hu_of hr) (pv 1) pe_str (fun _ _ => rfl)) (pv 6) (fun _ _ => rfl))))
(pss_one (ps_ret (pe_ifExp (pt_cmpR op_gt (pv 8) pe_int (nomark _)) (pe_tup (pa_cons pe_str (pa_cons (pv 6) (pa_cons (pe_op op_add (pe_op op_add (pe_dget (hu_of hr) (pe_dget (hu_of hr) (pv 1) pe_str (fun _ _ => rfl)) (pv 6) (fun _ _ => rfl)) pe_int) (pe_callH G_law_take (hr.mono (by decide)) (by rfl) (pa_cons (pv 0) (pa_cons (pv 8) pa_nil)))) pa_nil)))) pe_non))))))))))), ?_⟩
    walk_at "w"
    refine ⟨_, rfl, hwz, ?_⟩
    walk_at "w"
    refine use_take hb (by omega) (by omega) (fun r1 H1 r10 r11 g1 hb1 => ?_)
    refine ⟨words, r1, _, rfl, rfl, hwz, WK.at_ofG (j := r1.toNat) (by omega) (List.getElem?_eq_getElem (show r1.toNat < words.cps.toList.length by rw [Array.length_toList]; show r1.toNat < words.length; omega)), ?_⟩
    walk_at "w"
    refine use_take hb1 (by omega) (by omega) (fun p H2 p0 p1 g2 hb2 => ?_)
    walk_at "w"
    have hnl2 := g2.k1 (g1.k1 hnl nnb) nnb
    refine use_of hb2 hnl2 nnb (by simpa using ne) (by rw [List.length_map]; omega) (fun j key H3 hj g3 hb3 => ?_)
    obtain ⟨ky, hky, rfl⟩ : ∃ ky, ky ∈ names ∧ key = V.str ky := by
      rw [List.getElem?_map] at hj
      cases e : names[j]? with
      | none => rw [e] at hj; cases hj
      | some z => rw [e] at hj; exact ⟨z, List.mem_of_getElem? e, (Option.some.inj hj).symm⟩
    have g03 : Gr [b] H H3 := (g1.trans g2).trans g3
    have hw3 : WAt H3 wa sd cl st n := hw.keep g03 (by simpa using nbw.symm) (by simpa using nbs.symm) (by simpa using nbc.symm)
    clear hj hb2 hb1 hb g1 g2 g3 hnl2
    walk_at "w"
    walk_at "i"
    refine WK.w_2 (fun h1 => ?_) (fun h1 => ?_)
    · walk_at "w"
      refine use_take (n := m) (hb3.mono (by omega)) (by omega) (by omega) (fun x H4 x0 x1 g4 hb4 => ?_)
      walk_at "w"
      refine ⟨WK.sz, fun p np => ?_⟩
      exact q _ _ ((g03.trans g4).trans (Gr.new np)) (hb4.keep (Gr.new (M := []) np) (by simp)) (.inr ⟨.put ky x, ⟨p, rfl, upd_same⟩, True.intro, hkeys _ hky, x0, x1⟩)
    walk_at "w"
    walk_at "i"
    refine ⟨WK.sz, fun t nt => ?_⟩
    have g04 : Gr [b] H (upd H3 t (.tup [V.str "d", V.str "w"])) := g03.trans (Gr.new nt)
    have hb4 : Bx (upd H3 t (.tup [V.str "d", V.str "w"])) b (m + 2) := hb3.keep (Gr.new (M := []) nt) (by simp)
    have hw4 : WAt (upd H3 t (.tup [V.str "d", V.str "w"])) wa sd cl st n := hw3.keep (Gr.new (M := []) nt) (by simp) (by simp) (by simp)
    have ht4 : (upd H3 t (.tup [V.str "d", V.str "w"])) t = some (.tup [V.str "d", V.str "w"]) := upd_same
    clear hw3 hb3 g03
    generalize (upd H3 t (.tup [V.str "d", V.str "w"])) = H4 at *
    walk_at "w"
    refine ite2 (fun h2 => ?_) (fun h2 => ?_)
    · walk_at "w"
      walk_at "i"
      refine WK.w_2 (fun h3 => ?_) (fun h3 => ?_)
      · walk_at "w"
        refine ⟨WK.sz, fun p np => ?_⟩
        exact q _ _ (g04.trans (Gr.new np)) ((hb4.keep (Gr.new (M := []) np) (by simp)).mono (by omega)) (.inr ⟨.drop ky, ⟨p, rfl, upd_same⟩, True.intro, hkeys _ hky⟩)
      · walk_at "w"
        refine ⟨WK.sz, fun p np => ?_⟩
        exact q _ _ (g04.trans (Gr.new np)) ((hb4.keep (Gr.new (M := []) np) (by simp)).mono (by omega)) (.inr ⟨.wait, ⟨p, rfl, upd_same⟩, True.intro, True.intro⟩)
    walk_at "w"
    walk_at "i"
    refine WK.w_2 (fun h3 => ?_) (fun h3 => ?_)
    · walk_at "w"
      refine ⟨WK.sz, fun z np => ?_⟩
      exact q _ _ (g04.trans (Gr.new np)) ((hb4.keep (Gr.new (M := []) np) (by simp)).mono (by omega)) (.inr ⟨.join p, ⟨z, rfl, upd_same⟩, True.intro, p0, by omega⟩)
    walk_at "w"
    walk_at "i"
    refine WK.w_2 (fun h4 => ?_) (fun h4 => ?_)
    · walk_at "w"
      walk_at "i"
      refine ⟨_, _, rfl, hw4.g_copies, ?_⟩
      walk_at "w"
      refine ⟨WK.sz, fun z nz => ?_⟩
      have g5 : Gr [] H4 (upd H4 z (.lst [])) := Gr.new nz
      have hw5 := hw4.keep g5 (by simp) (by simp) (by simp)
      have hb5 := hb4.keep g5 (by simp)
      have g05 := g04.trans (g5.mono (by simp))
      have hz5 : (upd H4 z (.lst [])) z = some (.lst []) := upd_same
      generalize (upd H4 z (.lst [])) = H5 at *
      refine w_neNil (n := 0) (SqL.of hw5.c) (dp_ints _) (.ints _) (by decide) hz5 ?_
      walk_at "w"
      refine ite2 (fun h5 => ?_) (fun h5 => ?_)
      · have hc : 0 < st.copies.length := by
          cases e : st.copies with
          | nil => rw [e] at h5; simp at h5
          | cons x y => simp
        have hcn := hw5.cn
        walk_at "w"
        refine ⟨_, _, rfl, hw5.g_copies, ?_⟩
        refine ⟨_, _, rfl, .inl (SqL.of hw5.c), ?_⟩
        walk_at "w"
        refine use_take (n := m) (hb5.mono (by omega)) (by rw [List.length_map]; omega) (by rw [List.length_map]; omega) (fun x H6 x0 x1 g6 hb6 => ?_)
        rw [List.length_map] at x1
        walk_at "w"
        refine ⟨WK.sz, fun y ny => ?_⟩
        exact q _ _ ((g05.trans g6).trans (Gr.new ny)) ((hb6.keep (Gr.new (M := []) ny) (by simp)).mono (by omega)) (.inr ⟨.load p x, ⟨y, rfl, upd_same⟩, ⟨x0, x1⟩, ⟨p0, by omega⟩, x0⟩)
      · walk_at "w"
        exact q _ _ g05 (hb5.mono (by omega)) (.inl rfl)
    walk_at "w"
    walk_at "i"
    refine ⟨_, _, rfl, hw4.g_seats, ?_⟩
    refine ⟨_, _, rfl, hw4.g_seat p, ?_⟩
    walk_at "w"
    cases hsp' : st.seats p with
    | none =>
      refine WK.w_ifP (by rfl) ?_
      walk_at "w"
      refine ⟨WK.sz, fun z np => ?_⟩
      exact q _ _ (g04.trans (Gr.new np)) ((hb4.keep (Gr.new (M := []) np) (by simp)).mono (by omega)) (.inr ⟨.join p, ⟨z, rfl, upd_same⟩, True.intro, p0, by omega⟩)
    | some pl =>
      refine WK.w_ifN (by simp) ?_
      walk_at "w"
      walk_at "i"
      refine WK.w_2 (fun h5 => ?_) (fun h5 => ?_)
      · walk_at "w"
        refine ⟨WK.sz, fun z np => ?_⟩
        exact q _ _ (g04.trans (Gr.new np)) ((hb4.keep (Gr.new (M := []) np) (by simp)).mono (by omega)) (.inr ⟨.save p, ⟨z, rfl, upd_same⟩, ⟨pl, hsp'⟩, p0, by omega⟩)
      walk_at "w"
      have hg := hw4.g_seat p
      rw [hsp'] at hg
      refine ⟨_, _, rfl, hw4.g_many, ?_⟩
      walk_at "w"
      refine ⟨_, _, rfl, hw4.g_seats, ?_⟩
      walk_at "w"
      refine ⟨_, _, rfl, hg, ?_⟩
      walk_at "w"
      walk_at "i"
      have pl0 := hsp p pl hsp'
      refine WK.w_2 (fun h6 => ?_) (fun h6 => ?_)
      · walk_at "w"
        refine ⟨_, _, rfl, hw4.g_seats, ?_⟩
        walk_at "w"
        refine ⟨_, _, rfl, hg, ?_⟩
        walk_at "w"
        refine use_take (n := m) (hb4.mono (by omega)) (by omega) (by omega) (fun x H6 x0 x1 g6 hb6 => ?_)
        walk_at "w"
        refine ⟨WK.sz, fun y ny => ?_⟩
        exact q _ _ ((g04.trans g6).trans (Gr.new ny)) ((hb6.keep (Gr.new (M := []) ny) (by simp)).mono (by omega)) (.inr ⟨.read p (pl + 1 + x), ⟨y, rfl, upd_same⟩, ⟨pl, hsp', by omega, by omega⟩, ⟨p0, by omega⟩, by omega⟩)
      · walk_at "w"
        exact q _ _ g04 (hb4.mono (by omega)) (.inl rfl)

end
end PK
namespace PK
open PySem L2
section
variable {P : Program} {w : World} {K : PySem.W.Frag} {mg : Str → Option Value} {base : Heap}
abbrev s_law_moved : Stmt := topS 15
abbrev N_law_moved : List Str := ["_law_w", "_law_event_so", "_law_word"]
abbrev ps_law_moved : List Str := ["_law_w", "_law_event_so"]
theorem sc_law_moved : FnScope N_law_moved ps_law_moved (defScope s_law_moved) := ⟨rfl, rfl, rfl, by decide +kernel, rfl, by decide +kernel, by decide +kernel⟩
def spMoved : Sp := fun vs H Q _ => ∃ (w sd cl : Addr) (st : WS) (n : Nat) (v : V) (e : Ev), vs = [.ref w, v] ∧ WAt H w sd cl st n ∧ n ≤ 1000 ∧ IsEv H v e ∧ st.fits e ∧
  ∀ H' : Hp, Gr [w, sd, cl] H H' → WAt H' w sd cl (st.step e) (n + 1) → Q .non H'
def spMovedS (K : PySem.W.Frag) : Sp := fun vs H Q _ => ∃ (w sd cl : Addr) (st : WS) (n : Nat) (a : Addr) (e : Ev), vs = [.ref w, .ref a] ∧ WAt H w sd cl st n ∧ n ≤ 1000 ∧ SqT K H a e.vs ∧ st.fits e ∧
  ∀ H' : Hp, Gr [w, sd, cl] H H' → WAt H' w sd cl (st.step e) (n + 1) → Q .non H'
local macro_rules | `(tactic| walk_at "w") => `(tactic| (repeat (first
  | dsimp only
  | with_reducible first
    | apply WK.w_seq | apply WK.w_asg | apply WK.w_name | apply WK.w_gsub | apply WK.w_drop | apply WK.w_ret | apply WK.w_next
    | apply WK.w_c | apply WK.w_op | apply WK.w_eqS | apply WK.w_T | apply WK.w_I0
    | apply WK.w_nil | apply WK.w_cons | apply WK.w_tup | apply WK.w_bm | apply WK.w_dget | apply WK.w_dput | apply WK.w_ex
  | (with_reducible refine' WK.w_var ?h1 ?_); (case h1 => exact rfl)
  | (with_reducible refine' PK.w_ixS ?h1 ?h2 ?_); (case h1 => assumption); (case h2 => rfl)
  | (with_reducible refine' WK.w_inT ?h1 ?h2 ?h3 ?_); (case h1 => first | assumption | exact L2.upd_same); (case h2 => rfl); (case h3 => rfl))))
theorem has_movedS (D : Df K mg "_law_moved" s_law_moved ps_law_moved) (T : Txt mg) : Has P w K mg base 1 "_law_moved" ps_law_moved (spMovedS K) := Has.mk' D fun f fd F => by
  refine F.ok sc_law_moved (fun vs H Q E h => ?_) (fun cdv A outer s H vs Q E hr h => ?_)
  · obtain ⟨w, sd, cl, st, n, a, e, rfl, _⟩ := h
    rfl
  · obtain ⟨wa, sd, cl, st, n, a, e, rfl, hw, hn, ha, hf, q⟩ := h
    refine ⟨_, (pss_cons (ps_set (i := 2) sc_law_moved.nd rfl (Or.inl rfl) (pe_ix (ix_tupK (K := K)) (pv 1) pe_int (fun _ _ => rfl)))
(pss_one (ps_if (pt_cmpR (op_in_seqK (K := K)) (pv 2) (pe_tup (pa_cons pe_str (pa_cons pe_str pa_nil))) (by rfl))
  (pss_one (ps_dput (hu_of hr) (pv 0) pe_str (pe_op op_add (pe_dget (hu_of hr) (pv 0) pe_str (fun _ _ => rfl)) pe_int) rfl))
  (pss_one (ps_if (pt_cmpR op_eq (pv 2) pe_str (nomark _))
    (pss_one (ps_dput (hu_of hr) (pe_dget (hu_of hr) (pv 0) pe_str (fun _ _ => rfl)) (pe_ix (ix_tupK (K := K)) (pv 1) pe_int (fun _ _ => rfl)) pe_int rfl))
    (pss_one (ps_if (pt_cmpR op_eq (pv 2) pe_str (nomark _))
      (pss_one (ps_dput (hu_of hr) (pe_dget (hu_of hr) (pv 0) pe_str (fun _ _ => rfl)) (pe_ix (ix_tupK (K := K)) (pv 1) pe_int (fun _ _ => rfl)) (pe_ix (ix_tupK (K := K)) (pv 1) pe_int (fun _ _ => rfl)) rfl))
      (pss_one (ps_if (pt_cmpR op_eq (pv 2) pe_str (nomark _))
        (pss_one (ps_expr (pe_bm PySem.F.plainAttrs_list PySem.F.slot_list_append PySem.F.type_list_append mt_append (pe_dget (hu_of hr) (pv 0) pe_str (fun _ _ => rfl)) (pa_cons (pe_dget (hu_of hr) (pe_dget (hu_of hr) (pv 0) pe_str (fun _ _ => rfl)) (pe_ix (ix_tupK (K := K)) (pv 1) pe_int (fun _ _ => rfl)) (fun _ _ => rfl)) pa_nil))))
        (pss_one (ps_if (pt_cmpR op_eq (pv 2) pe_str (nomark _))
          (pss_one (ps_dput (hu_of hr) (pe_dget (hu_of hr) (pv 0) pe_str (fun _ _ => rfl)) (pe_ix (ix_tupK (K := K)) (pv 1) pe_int (fun _ _ => rfl)) (pe_ix (ix_listK (K := K)) (pe_dget (hu_of hr) (pv 0) pe_str (fun _ _ => rfl)) (pe_ix (ix_tupK (K := K)) (pv 1) pe_int (fun _ _ => rfl)) (fun _ _ => rfl)) rfl))
          pss_nil))))))))))), ?_⟩
    have fl : ∀ (p : Addr), H p = none → ∀ o, Gr [wa, sd, cl] H (upd H p o) := fun p np o => Gr.new np
    cases e with
    | put k v =>
      walk_at "w"
      walk_at "i"
      refine ⟨WK.sz, fun t nt => ?_⟩
      walk_at "w"
      refine WK.w_ifP (by decide +kernel) ?_
      walk_at "w"
      have h1 := hw.keep (Gr.new (M := []) (o := .tup [V.str "put", V.str "drop"]) nt) (by simp) (by simp) (by simp)
      refine ⟨_, _, rfl, h1.g_many, ?_⟩
      walk_at "w"
      refine ⟨_, _, rfl, h1.p_many _, ?_⟩
      exact q _ ((Gr.new nt).trans (Gr.mutD h1.w (by simp))) ((h1.many _).mono (by omega))
    | drop k =>
      walk_at "w"
      walk_at "i"
      refine ⟨WK.sz, fun t nt => ?_⟩
      walk_at "w"
      refine WK.w_ifP (by decide +kernel) ?_
      walk_at "w"
      have h1 := hw.keep (Gr.new (M := []) (o := .tup [V.str "put", V.str "drop"]) nt) (by simp) (by simp) (by simp)
      refine ⟨_, _, rfl, h1.g_many, ?_⟩
      walk_at "w"
      refine ⟨_, _, rfl, h1.p_many _, ?_⟩
      exact q _ ((Gr.new nt).trans (Gr.mutD h1.w (by simp))) ((h1.many _).mono (by omega))
    | join r => 
      walk_at "w"
      walk_at "i"
      refine ⟨WK.sz, fun t nt => ?_⟩
      walk_at "w"
      refine WK.w_ifN (by decide +kernel) ?_
      have h1 := hw.keep (Gr.new (M := []) (o := .tup [V.str "put", V.str "drop"]) nt) (by simp) (by simp) (by simp)
      have a1 := sqT_gr (K := K) (Gr.new (M := []) (o := .tup [V.str "put", V.str "drop"]) nt) ha
      walk_at "i"
      refine WK.w_ifP (by decide +kernel) ?_
      walk_at "w"
      refine ⟨_, _, rfl, h1.g_seats, ?_⟩
      walk_at "w"
      obtain ⟨o, d, h2, g2⟩ := h1.p_seat hn r 0
      refine ⟨_, _, rfl, d, ?_⟩
      exact q _ ((Gr.new nt).trans g2) h2
    | read r u => 
      walk_at "w"
      walk_at "i"
      refine ⟨WK.sz, fun t nt => ?_⟩
      walk_at "w"
      refine WK.w_ifN (by decide +kernel) ?_
      have h1 := hw.keep (Gr.new (M := []) (o := .tup [V.str "put", V.str "drop"]) nt) (by simp) (by simp) (by simp)
      have a1 := sqT_gr (K := K) (Gr.new (M := []) (o := .tup [V.str "put", V.str "drop"]) nt) ha
      walk_at "i"
      refine WK.w_ifN (by decide +kernel) ?_
      walk_at "i"
      refine WK.w_ifP (by decide +kernel) ?_
      walk_at "w"
      refine ⟨_, _, rfl, h1.g_seats, ?_⟩
      walk_at "w"
      obtain ⟨o, d, h2, g2⟩ := h1.p_seat hn r u
      refine ⟨_, _, rfl, d, ?_⟩
      exact q _ ((Gr.new nt).trans g2) h2
    | save r =>
      walk_at "w"
      walk_at "i"
      refine ⟨WK.sz, fun t nt => ?_⟩
      walk_at "w"
      refine WK.w_ifN (by decide +kernel) ?_
      have h1 := hw.keep (Gr.new (M := []) (o := .tup [V.str "put", V.str "drop"]) nt) (by simp) (by simp) (by simp)
      have a1 := sqT_gr (K := K) (Gr.new (M := []) (o := .tup [V.str "put", V.str "drop"]) nt) ha
      walk_at "i"
      refine WK.w_ifN (by decide +kernel) ?_
      walk_at "i"
      refine WK.w_ifN (by decide +kernel) ?_
      walk_at "i"
      refine WK.w_ifP (by decide +kernel) ?_
      walk_at "w"
      refine ⟨_, _, rfl, h1.g_copies, ?_⟩
      refine ⟨.inl ⟨rfl, _, SqL.of h1.c⟩, ?_⟩
      walk_at "w"
      refine ⟨_, _, rfl, h1.g_seats, ?_⟩
      walk_at "w"
      obtain ⟨p, hp⟩ := hf
      have hg := h1.g_seat r
      rw [hp] at hg
      refine ⟨_, _, rfl, hg, ?_⟩
      walk_at "w"
      have hcn := h1.cn
      refine ⟨cl, _, _, rfl, rfl, h1.c, WK.sz' (by rw [List.length_map]; omega), ?_⟩
      refine q _ ((Gr.new nt).trans (Gr.mutL h1.c (by simp))) ⟨?_, ?_, ?_, ?_⟩
      · rw [upd_ne h1.ne2]; exact h1.w
      · obtain ⟨kvs, ks, hs, r1, r2, r3, r4⟩ := h1.s
        exact ⟨kvs, ks, by rw [upd_ne h1.ne3]; exact hs, r1, r2, by omega, r4⟩
      · rw [upd_same]
        show _ = some (HO.lst (List.map V.int (st.copies ++ [(st.seats r).getD 0])))
        rw [hp, List.map_append]
        rfl
      · show (st.copies ++ [(st.seats r).getD 0]).length ≤ n + 1
        rw [List.length_append, List.length_singleton]
        omega
    | load r c =>
      walk_at "w"
      walk_at "i"
      refine ⟨WK.sz, fun t nt => ?_⟩
      walk_at "w"
      refine WK.w_ifN (by decide +kernel) ?_
      have h1 := hw.keep (Gr.new (M := []) (o := .tup [V.str "put", V.str "drop"]) nt) (by simp) (by simp) (by simp)
      have a1 := sqT_gr (K := K) (Gr.new (M := []) (o := .tup [V.str "put", V.str "drop"]) nt) ha
      walk_at "i"
      refine WK.w_ifN (by decide +kernel) ?_
      walk_at "i"
      refine WK.w_ifN (by decide +kernel) ?_
      walk_at "i"
      refine WK.w_ifN (by decide +kernel) ?_
      walk_at "i"
      refine WK.w_ifP (by decide +kernel) ?_
      walk_at "w"
      obtain ⟨c0, c1⟩ := hf
      refine ⟨_, _, rfl, h1.g_copies, ?_⟩
      walk_at "w"
      have e : st.copies[c.toNat]? = some (st.copies.getD c.toNat 0) := by
        rw [List.getD_eq_getElem?_getD, List.getElem?_eq_getElem (by omega)]
        rfl
      refine ⟨cl, _, c, .int (st.copies.getD c.toNat 0), rfl, rfl, SqL.of h1.c, WK.at_ofG (j := c.toNat) (by omega) (by rw [List.getElem?_map, e]; rfl), ?_⟩
      walk_at "w"
      refine ⟨_, _, rfl, h1.g_seats, ?_⟩
      walk_at "w"
      obtain ⟨o, d, h2, g2⟩ := h1.p_seat hn r (st.copies.getD c.toNat 0)
      refine ⟨_, _, rfl, d, ?_⟩
      exact q _ ((Gr.new nt).trans g2) h2
    | wait =>
      walk_at "w"
      walk_at "i"
      refine ⟨WK.sz, fun t nt => ?_⟩
      walk_at "w"
      refine WK.w_ifN (by decide +kernel) ?_
      have h1 := hw.keep (Gr.new (M := []) (o := .tup [V.str "put", V.str "drop"]) nt) (by simp) (by simp) (by simp)
      have a1 := sqT_gr (K := K) (Gr.new (M := []) (o := .tup [V.str "put", V.str "drop"]) nt) ha
      walk_at "i"
      refine WK.w_ifN (by decide +kernel) ?_
      walk_at "i"
      refine WK.w_ifN (by decide +kernel) ?_
      walk_at "i"
      refine WK.w_ifN (by decide +kernel) ?_
      walk_at "i"
      refine WK.w_ifN (by decide +kernel) ?_
      walk_at "w"
      exact q _ (Gr.new nt) (h1.mono (by omega))
theorem has_moved (G : Has P w K mg base 1 "_law_moved" ps_law_moved (spMovedS K)) : Has P w K mg base 1 "_law_moved" ps_law_moved spMoved := G.imp fun vs H Q E h => by
  obtain ⟨wa, sd, cl, st, n, _, e, rfl, hw, hn, ⟨a, rfl, ha⟩, hf, q⟩ := h
  exact ⟨wa, sd, cl, st, n, a, e, rfl, hw, hn, SqT.of ha, hf, q⟩
theorem use_moved {H : Hp} {Q : VK} {E : XK} {w sd cl : Addr} {st : WS} {n : Nat} {v : V} {e : Ev} (hw : WAt H w sd cl st n) (hn : n ≤ 1000) (he : IsEv H v e) (hf : st.fits e) (k : ∀ H' : Hp, Gr [w, sd, cl] H H' → WAt H' w sd cl (st.step e) (n + 1) → Q .non H') : spMoved [.ref w, v] H Q E := ⟨w, sd, cl, st, n, v, e, rfl, hw, hn, he, hf, k⟩

end
end PK
namespace PK
open PySem L2
section
variable {P : Program} {w : World} {K : PySem.W.Frag} {mg : Str → Option Value} {base : Heap}
abbrev s_law_table : Stmt := topS 16
abbrev N_law_table : List Str := ["_law_box_here", "_law_many", "_law_most", "_law_folk", "_law_names", "_law_words", "_law_found", "_law_w", "_law_turn", "_law_event_so", "_law_is_full"]
abbrev ps_law_table : List Str := ["_law_box_here", "_law_many", "_law_most", "_law_folk", "_law_names", "_law_words"]
theorem sc_law_table : FnScope N_law_table ps_law_table (defScope s_law_table) := ⟨rfl, rfl, rfl, by decide +kernel, rfl, by decide +kernel, by decide +kernel⟩
structure TbAt (H0 H : Hp) (b L w sd cl : Addr) (m i : Nat) (es : List Ev) (xs : List V) : Prop where
  g : Gr [b] H0 H
  bx : Bx H b m
  wa : WAt H w sd cl (WS.nil.run es) i
  l : H L = some (.lst xs)
  ev : Evs H xs es
  va : Valid .nil es
  ok : ∀ e ∈ es, e.ok
  len : es.length ≤ i
theorem TbAt.gr {H0 H H1 : Hp} {b L w sd cl : Addr} {m i : Nat} {es : List Ev} {xs : List V} (t : TbAt H0 H b L w sd cl m i es xs) (g : Gr [] H H1) : TbAt H0 H1 b L w sd cl m i es xs :=
  ⟨t.g.trans (g.mono (by simp)), t.bx.keep g (by simp), t.wa.keep g (by simp) (by simp) (by simp), g.k0 t.l, t.ev.gr g, t.va, t.ok, t.len⟩
def spTable : Sp := fun vs H Q _ => ∃ (b nl : Addr) (m k : Nat) (most folk : Int) (names : List Str) (words : Str), vs = [.ref b, .int k, .int most, .int folk, .ref nl, .str words] ∧
  Bx H b (m + 5 * k) ∧ k ≤ 100 ∧ 1 ≤ folk ∧ folk ≤ 4 ∧ H nl = some (.lst (names.map V.str)) ∧ nl ≠ b ∧ names ≠ [] ∧ names.length ≤ 100 ∧ (∀ k ∈ names, KeyOk k) ∧ 0 < words.length ∧ words.length ≤ 100 ∧
  ∀ (v : V) (H' : Hp) (es : List Ev), Gr [b] H H' → Bx H' b m → IsTT H' v es → Valid .nil es → (∀ e ∈ es, e.ok) → es.length ≤ k → Q v H'
theorem has_table (D : Df K mg "_law_table" s_law_table ps_law_table) (T : Txt mg) (G_law_event : Has P w K mg base 3 "_law_event" ps_law_event spEvent) (G_law_moved : Has P w K mg base 1 "_law_moved" ps_law_moved spMoved) :
    Has P w K mg base 4 "_law_table" ps_law_table spTable := Has.mk' D fun f fd F => by
  refine F.ok sc_law_table (fun vs H Q E h => ?_) (fun cdv A outer s H vs Q E hr h => ?_)
  · obtain ⟨b, nl, m, k, most, folk, names, words, rfl, _⟩ := h
    rfl
  · obtain ⟨b, nl, m, k, most, folk, names, words, rfl, hb, hk, f1, f2, hnl, nnb, ne, nlen, hkeys, wl0, wl1, q⟩ := h
    refine ⟨_, (pss_cons (ps_par (i := 6) (j := 7) (by rfl) sc_law_table.nd rfl rfl (by decide) rfl rfl (pa_cons (pe_lst pa_nil) (pa_cons (pe_disp (pps_cons pe_str pe_dnewK (pps_cons pe_str (pe_lst pa_nil) (pps_cons pe_str pe_int pps_nil))) (by rfl) (by rfl) (fun z => by cases z) (by decide)) pa_nil)) (by rfl))
(pss_cons (ps_for PassesOwn.never rfl (pi_range1 (by rfl) T.m_range (pa_cons (pv 1) pa_nil)) (pg_name (i := 8) sc_law_table.nd rfl (Or.inl rfl))
  (pss_cons (ps_set (i := 9) sc_law_table.nd rfl (Or.inl rfl) (pe_callH G_law_event (hr.mono (by decide)) (by rfl) (pa_cons (pv 0) (pa_cons (pv 7) (pa_cons (pv 3) (pa_cons (pv 4) (pa_cons (pv 5) pa_nil)))))))
  (pss_cons (ps_set (i := 10) sc_law_table.nd rfl (Or.inl rfl) (pe_and (pe_cmpR op_notN (pv 9) pe_non (nomark _)) (pe_and (pe_cmpR (op_in_seqK (K := K)) (pe_ix (ix_tupK (K := K)) (pv 9) pe_int (fun _ _ => rfl)) (pe_tup (pa_cons pe_str (pa_cons pe_str pa_nil))) (by rfl)) (pe_one (pe_cmpR op_ge (pe_dget (hu_of hr) (pv 7) pe_str (fun _ _ => rfl)) (pv 2) (nomark _))))))
  (pss_one (ps_if (PW.pt (pw_and (pt_cmpR op_notN (pv 9) pe_non (nomark _)) (pw_and (pt_not (pt_val (pv 10))) (pw_and1 (PW.pt (pw_or (pt_cmpR op_ne (pe_ix (ix_tupK (K := K)) (pv 9) pe_int (fun _ _ => rfl)) pe_str (nomark _)) (pw_or1 (pt_cmpR op_lt (pe_callB (call_len_seqK (K := K)) (by rfl) T.m_len (by decide +kernel) (pa_cons (pe_dget (hu_of hr) (pv 7) pe_str (fun _ _ => rfl)) pa_nil)) pe_int (nomark _)))))))))
    (pss_cons (ps_expr (pe_callH G_law_moved (hr.mono (by decide)) (by rfl) (pa_cons (pv 7) (pa_cons (pv 9) pa_nil))))
    (pss_one (ps_expr (pe_bm PySem.F.plainAttrs_list PySem.F.slot_list_append PySem.F.type_list_append mt_append (pv 6) (pa_cons (pv 9) pa_nil)))))
    pss_nil)))))
(pss_one (ps_ret (pe_callTy (call_tuple_ofK (K := K)) (by rfl) T.m_tuple (by decide +kernel) (pa_cons (pv 6) pa_nil)))))), ?_⟩
    walk_at "w"
    refine ⟨WK.sz, fun L nL => ?_⟩
    walk_at "w"
    refine w_wdict fun wa sd cl H1 nw ns nc g1 hw => ?_
    walk_at "w"
    have L1 : H1 L = some (.lst []) := g1.k0 upd_same
    have nwL : wa ≠ L := fun e => by rw [e, upd_same] at nw; cases nw
    have nsL : sd ≠ L := fun e => by rw [e, upd_same] at ns; cases ns
    have ncL : cl ≠ L := fun e => by rw [e, upd_same] at nc; cases nc
    have nw0 : H wa = none := by rw [upd_ne nwL] at nw; exact nw
    have ns0 : H sd = none := by rw [upd_ne nsL] at ns; exact ns
    have nc0 : H cl = none := by rw [upd_ne ncL] at nc; exact nc
    obtain ⟨bl, hbl⟩ := hb.lst
    have nbL : b ≠ L := ne_of_none hbl nL
    have nbw : b ≠ wa := ne_of_none hbl nw0
    have nbs : b ≠ sd := ne_of_none hbl ns0
    have nbc : b ≠ cl := ne_of_none hbl nc0
    have g01 : Gr [] H H1 := (Gr.new nL).trans g1
    refine ⟨by omega, by omega, lp_range (fun i σ' H' => ∃ es xs y8 y9 y10, σ' = [some (.ref b), some (.int k), some (.int most), some (.int folk), some (.ref nl), some (.str words), some (.ref L), some (.ref wa), y8, y9, y10] ∧ TbAt H H' b L wa sd cl (m + 5 * (k - i)) i es xs)
      ⟨[], [], none, none, none, rfl, g01.mono (by simp), (hb.keep g01 (by simp)).mono (by omega), hw, L1, .nil, True.intro, by simp, Nat.le_refl _⟩ ?_ ?_⟩
    · rintro i _ H2 hi ⟨es, xs, y8, y9, y10, rfl, t⟩
      have hi' : i < k := by omega
      have gd := Gd.run (es := es) Gd.nil t.ok
      have gm0 := gd.m0
      have gm1 := gd.m1
      have tl := t.len
      walk_at "w"
      refine ⟨b, wa, sd, cl, nl, WS.nil.run es, i, m + 5 * (k - (i + 1)), folk, names, words, rfl, t.bx.mono (by omega), t.wa, by omega, nbc, f1, f2, t.g.k1 hnl nnb, nnb, ne, nlen, hkeys, wl0, wl1, gm0, by omega, gd.s, fun v H3 g3 hb3 hv => ?_⟩
      have t3 : TbAt H H3 b L wa sd cl (m + 5 * (k - (i + 1))) i es xs := ⟨t.g.trans g3, hb3, t.wa.keep g3 (by simpa using nbw.symm) (by simpa using nbs.symm) (by simpa using nbc.symm), g3.k1 t.l nbL.symm, t.ev.gr g3, t.va, t.ok, t.len⟩
      clear t hb3 g3
      walk_at "w"
      refine WK.w_gen (fun u H' => Gr [] H3 H' ∧ ∃ fb, u = V.bl fb) ?_ (fun Q0 q0 => ?_)
      · rintro _ H4 ⟨g4, fb, rfl⟩
        have t4 := t3.gr g4
        have hv4 : v = .non ∨ ∃ e : Ev, IsEv H4 v e ∧ (WS.nil.run es).fits e ∧ e.ok := hv.imp id fun ⟨e, h1, h2⟩ => ⟨e, h1.gr g4, h2⟩
        clear t3 hv
        walk_at "w"
        refine WK.w_if (WK.w_genT (fun b2 H' => Gr [] H4 H' ∧ (b2 = true → v ≠ .non)) ?_ (fun R0 r0 => ?_))
        · rintro b2 H5 ⟨g5, hb2⟩
          have t5 := t4.gr g5
          cases b2 with
          | false => exact ⟨es, xs, _, _, _, rfl, t5.g, t5.bx, t5.wa.mono (Nat.le_succ _), t5.l, t5.ev, t5.va, t5.ok, Nat.le_succ_of_le t5.len⟩
          | true =>
            obtain ⟨e, he, hf, hok⟩ := hv4.resolve_left (hb2 rfl)
            have he5 := he.gr g5
            refine WK.w_ifP rfl ?_
            walk_at "w"
            refine use_moved t5.wa (by omega) he5 hf fun H6 g6 hw6 => ?_
            have l6 := g6.keep L _ (by simp [nwL.symm, nsL.symm, ncL.symm]) t5.l
            walk_at "w"
            refine ⟨.inl ⟨rfl, xs, SqL.of l6⟩, ?_⟩
            walk_at "w"
            have xl : xs.length < sizeLine := by
              rw [t5.ev.length]
              exact WK.sz' (by have := t5.len; omega)
            refine ⟨L, xs, v, rfl, rfl, l6, xl, ?_⟩
            have g7 : Gr [L] H6 (upd H6 L (.lst (xs ++ [v]))) := Gr.mutL l6 (by simp)
            refine ⟨es ++ [e], xs ++ [v], _, _, _, rfl, ?_, ?_, ?_, upd_same, ?_, valid_snoc t5.va hf, ?_, ?_⟩
            · exact ⟨fun a o na ha => g7.keep a o (by simpa using ne_of_none ha nL) (g6.keep a o (by simp [ne_of_none ha nw0, ne_of_none ha ns0, ne_of_none ha nc0]) (t5.g.keep a o na ha)), fun a zs ha => g7.tup a zs (g6.tup a zs (t5.g.tup a zs ha)), fun a o u ha => g7.fix a o u (g6.fix a o u (t5.g.fix a o u ha)), fun a ha => t5.g.live a (g6.live a (g7.live a ha))⟩
            · exact (t5.bx.keep g6 (by simp [nbw, nbs, nbc])).keep g7 (by simpa using nbL)
            · rw [run_snoc]
              exact hw6.keep g7 (by simpa using nwL) (by simpa using nsL) (by simpa using ncL)
            · exact pr_append ((t5.ev.gr g6).gr g7) (.cons ((he5.gr g6).gr g7) .nil)
            · intro x hx
              rcases List.mem_append.mp hx with z | z
              · exact t5.ok x z
              · rw [List.mem_singleton] at z
                rw [z]
                exact hok
            · rw [List.length_append, List.length_singleton]
              have := t5.len
              omega
        · walk_at "i"
          refine WK.w_2n (fun h => ?_) (fun h => r0 _ _ ⟨Gr.refl _ _, fun z => by cases z⟩)
          have yes : ∀ H5, Gr [] H4 H5 → ∀ b2 : Bool, R0 b2 H5 := fun H5 g5 b2 => r0 _ _ ⟨g5, fun _ => h⟩
          obtain ⟨e, ⟨a, rfl, ha⟩, hf, hok⟩ := hv4.resolve_left h
          walk_at "i"
          cases fb with
          | true => exact WK.w_ifN (by decide) (yes _ (Gr.refl _ _) _)
          | false =>
            refine WK.w_ifP rfl ?_
            walk_at "i"
            refine WK.w_ixT ha e.at0 ?_
            walk_at "w"
            refine WK.w_2n (fun h2 => yes _ (Gr.refl _ _) _) (fun h2 => ?_)
            walk_at "w"
            refine ⟨_, _, rfl, t4.wa.g_copies, ?_⟩
            walk_at "w"
            refine ⟨_, _, rfl, .inl (SqL.of t4.wa.c), ?_⟩
            walk_at "w"
            exact yes _ (Gr.refl _ _) _
      · walk_at "i"
        refine WK.w_2n (fun h => ?_) (fun h => ?_)
        · obtain ⟨e, ⟨a, rfl, ha⟩, hf, hok⟩ := hv.resolve_left h
          walk_at "i"
          refine WK.w_ixT ha e.at0 ?_
          walk_at "w"
          refine ⟨WK.sz, fun z nz => ?_⟩
          refine WK.w_inT upd_same rfl rfl ?_
          walk_at "w"
          have g5 : Gr [] H3 (upd H3 z (.tup [.str "put", .str "drop"])) := Gr.new nz
          refine ite2 (fun h2 => ?_) (fun h2 => q0 _ _ ⟨g5, _, rfl⟩)
          walk_at "w"
          refine ⟨_, _, rfl, (t3.gr g5).wa.g_many, ?_⟩
          walk_at "w"
          exact q0 _ _ ⟨g5, _, rfl⟩
        · exact q0 _ _ ⟨Gr.refl _ _, _, rfl⟩
    · rintro σ' H' ⟨es, xs, y8, y9, y10, rfl, t⟩
      walk_at "w"
      have hL : xs.length ≤ sizeLine := by
        rw [t.ev.length]
        exact Nat.le_trans t.len (Nat.le_trans (by omega) (by decide : 100 ≤ sizeLine))
      refine ⟨L, xs, rfl, .inl ⟨SqL.of t.l, fun p np => q _ _ es (t.g.trans (Gr.new np)) ((t.bx.keep (Gr.new (M := []) np) (by simp)).mono (by omega)) ⟨p, xs, rfl, upd_same, t.ev.gr (Gr.new (M := []) np)⟩ t.va t.ok (by have := t.len; omega)⟩⟩

end
end PK
namespace PK
open PySem L2
section
variable {P : Program} {w : World} {K : PySem.W.Frag} {mg : Str → Option Value} {base : Heap}
abbrev s_law_ended : Stmt := topS 17
abbrev N_law_ended : List Str := ["_law_table_here", "_law_w", "_law_event_so", "_law_p"]
abbrev ps_law_ended : List Str := ["_law_table_here"]
theorem sc_law_ended : FnScope N_law_ended ps_law_ended (defScope s_law_ended) := ⟨rfl, rfl, rfl, by decide +kernel, rfl, by decide +kernel, by decide +kernel⟩
def spEnded : Sp := fun vs H Q _ => ∃ (v : V) (es : List Ev), vs = [v] ∧ IsTT H v es ∧ Valid .nil es ∧ (∀ e ∈ es, e.ok) ∧ es.length ≤ 60 ∧
  ∀ (v' : V) (H' : Hp) (es' : List Ev), Gr [] H H' → IsTT H' v' es' → Valid .nil es' → (∀ e ∈ es', e.ok) → es'.length ≤ 2 * es.length → Q v' H'
theorem has_ended (D : Df K mg "_law_ended" s_law_ended ps_law_ended) (T : Txt mg) (G_law_moved : Has P w K mg base 1 "_law_moved" ps_law_moved spMoved) :
    Has P w K mg base 2 "_law_ended" ps_law_ended spEnded := Has.mk' D fun f fd F => by
  refine F.ok sc_law_ended (fun vs H Q E h => ?_) (fun cdv A outer s H vs Q E hr h => ?_)
  · obtain ⟨v, es, rfl, _⟩ := h
    rfl
  · obtain ⟨_, es, rfl, ⟨a, xs, rfl, ha, hev⟩, hva, hok, hlen, q⟩ := h
    refine ⟨_, (pss_cons (ps_set (i := 1) sc_law_ended.nd rfl (Or.inr rfl) (pe_disp (pps_cons pe_str pe_dnewK (pps_cons pe_str (pe_lst pa_nil) (pps_cons pe_str pe_int pps_nil))) (by rfl) (by rfl) (fun z => by cases z) (by decide)))
(pss_cons (ps_for PassesOwn.never rfl (pi_tup (pv 0)) (pg_name (i := 2) sc_law_ended.nd rfl (Or.inl rfl))
  (pss_one (ps_expr (pe_callH G_law_moved (hr.mono (by decide)) (by rfl) (pa_cons (pv 1) (pa_cons (pv 2) pa_nil))))))
(pss_one (ps_ret (pe_op (op_catAK (K := K)) (pv 0) (pe_callTy (call_tuple_ofK (K := K)) (by rfl) T.m_tuple (by decide +kernel) (pa_cons (pe_lc (own := [("_law_p", 3)]) (g := gName 3)  rfl sc_law_ended.nd (pi_list (pe_callB (call_sortedDI rfl) (by rfl) T.m_sorted (by decide +kernel) (pa_cons (pe_dget (hu_of hr) (pv 1) pe_str (fun _ _ => rfl)) pa_nil))) (blkOk_by (own := [("_law_p", 3)]) (N := N_law_ended) (sc := defScope s_law_ended) (by decide +kernel)) (fun _ _ _ _ _ => pg_name (i := 3) sc_law_ended.nd rfl (Or.inl rfl)) (fun _ _ _ _ _ => pts_one (pt_cmpR op_lt (pe_dget (hu_of hr) (pe_dget (hu_of hr) (pv 1) pe_str (fun _ _ => rfl)) (pv 3) (fun _ _ => rfl)) (pe_dget (hu_of hr) (pv 1) pe_str (fun _ _ => rfl)) (nomark _))) (fun _ _ _ _ _ => (pe_tup (pa_cons pe_str (pa_cons (pv 3) (pa_cons (pe_dget (hu_of hr) (pv 1) pe_str (fun _ _ => rfl)) pa_nil)))))) pa_nil))))))), ?_⟩
    walk_at "w"
    refine w_wdict fun wa sd cl H1 nw ns nc g1 hw => ?_
    walk_at "w"
    refine ⟨⟨xs, SqT.of (g1.tup _ _ ha)⟩, lp_tup (xs := xs) (fun i σ' H' => ∃ y2, σ' = [some (.ref a), some (.ref wa), y2, none] ∧ Gr [] H H' ∧ WAt H' wa sd cl (WS.nil.run (es.take i)) i)
      ⟨_, rfl, g1, hw⟩ (fun i σ' H' _ ⟨_, _, g, _⟩ => SqT.of (g.tup _ _ ha)) ?_ ?_⟩
    · rintro i x _ H2 hx ⟨y2, rfl, g2, hw2⟩
      have hi : i < xs.length := (List.getElem?_eq_some_iff.mp hx).1
      rw [hev.length] at hi
      obtain ⟨e, he, hxe⟩ := pr_get hev hx
      walk_at "w"
      refine use_moved hw2 (by omega) (hxe.gr g2) (valid_take hva i he) fun H3 g3 hw3 => ?_
      refine ⟨_, rfl, g2.sub (L := [wa, sd, cl]) g3 (by simp [nw, ns, nc]), ?_⟩
      rw [take_snoc he, run_snoc]
      exact hw3
    · rintro _ H2 ⟨y2, rfl, g2, hw2⟩
      rw [hev.length, List.take_length] at hw2
      have gd := Gd.run (es := es) Gd.nil hok
      generalize hst : WS.nil.run es = st at hw2 gd
      walk_at "w"
      refine ⟨_, _, rfl, hw2.g_seats, ?_⟩
      walk_at "w"
      obtain ⟨kvs, ks, hs, k1, k2, k3, k4, k5⟩ := hw2.s
      refine ⟨sd, kvs, ks, rfl, .inl hs, k1, by omega, fun ys l hp hsort nl => ?_⟩
      have g3 : Gr [] H2 (upd H2 l (.lst (ys.map V.int))) := Gr.new nl
      have hl3 : (upd H2 l (.lst (ys.map V.int))) l = some (.lst (ys.map V.int)) := upd_same
      have hw3 := hw2.keep g3 (by simp) (by simp) (by simp)
      have g03 := g2.trans g3
      have yn : ys.Nodup := (hp.nodup_iff).mpr k2
      have ym : ∀ r ∈ ys, ∃ p, st.seats r = some p := fun r hr => Option.isSome_iff_exists.mp ((k4 r).mp (hp.mem_iff.mp hr))
      clear hw2 g2 hs
      generalize (upd H2 l (.lst (ys.map V.int))) = H3 at *
      refine ⟨l, rfl, ⟨_, SqL.of hl3⟩, ?_⟩
      refine lc_go (walk_list (K := K) (a := l) (xs := ys.map V.int)) (fun Dn i acc H' => Gr [] H3 H' ∧ ∃ rs : List Int, rs.Sublist (ys.take i) ∧ (∀ r ∈ rs, ∃ p, st.seats r = some p ∧ p < st.many) ∧ Evs H' acc (rs.map fun r => Ev.read r st.many))
        (fun Dn nD => ⟨Gr.new nD, [], by simp, by simp, .nil⟩) (fun Dn i acc H' _ ⟨g, _⟩ => SqL.of (g.k0 hl3)) ?_ ?_
      · rintro Dn i acc x H4 H5 nD hi hD la ⟨g4, rs, r1, r2, r3⟩ ⟨e5, hx⟩
        subst e5
        rw [List.length_map] at hi
        have ey : ys[i]? = some ys[i] := List.getElem?_eq_getElem hi
        have ex : x = .int ys[i] := by
          rw [List.getElem?_map, ey] at hx
          exact (Option.some.inj hx).symm
        subst ex
        have hw4 := hw3.keep g4 (by simp) (by simp) (by simp)
        obtain ⟨p, hpp⟩ := ym ys[i] (List.getElem_mem hi)
        have hg := hw4.g_seat ys[i]
        rw [hpp] at hg
        have hts : ys.take (i + 1) = ys.take i ++ [ys[i]] := take_snoc ey
        walk_at "w"
        refine ⟨rfl, ?_⟩
        walk_at "w"
        refine ⟨_, _, rfl, hw4.g_seats, ?_⟩
        walk_at "w"
        refine ⟨_, _, rfl, hg, ?_⟩
        walk_at "w"
        refine ⟨_, _, rfl, hw4.g_many, ?_⟩
        walk_at "w"
        refine WK.w_2 (fun h => ?_) (fun h => ?_)
        · walk_at "w"
          refine ⟨_, _, rfl, hw4.g_many, ?_⟩
          walk_at "w"
          refine ⟨WK.sz, fun z nz => ?_⟩
          have gz : Gr [] H5 (upd H5 z (.tup [.str "read", .int ys[i], .int st.many])) := Gr.new nz
          have hDz := gz.k0 hD
          have gD : Gr [Dn] (upd H5 z (.tup [.str "read", .int ys[i], .int st.many])) _ := Gr.mutL (o := .lst (acc ++ [.ref z])) hDz (by simp)
          have yl : ys.length = ks.length := hp.length_eq
          refine lc_yes hDz la (by omega) ⟨(g4.trans gz).own gD nD, rs ++ [ys[i]], ?_, ?_, ?_⟩
          · rw [hts]
            exact r1.append (List.Sublist.refl _)
          · intro r hr
            rcases List.mem_append.mp hr with z' | z'
            · exact r2 r z'
            · rw [List.mem_singleton] at z'
              rw [z']
              exact ⟨p, hpp, h⟩
          · rw [List.map_append]
            exact pr_append ((r3.gr gz).gr gD) (.cons ⟨z, rfl, gD.tup _ _ upd_same⟩ .nil)
        · refine lc_no hD la ⟨g4, rs, ?_, r2, r3⟩
          rw [hts]
          exact r1.trans (List.sublist_append_left _ _)
      · rintro Dn acc H5 nD hD la ⟨g5, rs, r1, r2, r3⟩
        rw [List.length_map, List.take_length] at *
        have rn : rs.Nodup := r1.nodup yn
        have yl : ys.length = ks.length := hp.length_eq
        have rl : rs.length ≤ ys.length := r1.length_le
        have al := r3.length
        rw [List.length_map] at al
        walk_at "w"
        refine ⟨Dn, acc, rfl, .inl ⟨SqL.of hD, fun z nz => ?_⟩⟩
        have gz : Gr [] H5 (upd H5 z (.tup acc)) := Gr.new nz
        have g0z := (g03.trans g5).trans gz
        have az := g0z.tup _ _ ha
        have fin : ∀ es' : List Ev, es' = es ++ rs.map (fun r => Ev.read r st.many) → Valid .nil es' ∧ (∀ e ∈ es', e.ok) ∧ es'.length ≤ 2 * es.length := fun es' e => by
          subst e
          refine ⟨valid_append.mpr ⟨hva, by rw [hst]; exact valid_reads rn r2⟩, fun e he => ?_, ?_⟩
          · rcases List.mem_append.mp he with z | z
            · exact hok e z
            · obtain ⟨r, hr, rfl⟩ := List.mem_map.mp z
              obtain ⟨p, hp, hlt⟩ := r2 r hr
              have p0 := gd.s r p hp
              exact ⟨gd.k r p hp, by omega⟩
          · rw [List.length_append, List.length_map]
            omega
        have hxl : xs.length ≤ 60 := by rw [hev.length]; exact hlen
        refine ⟨a, z, xs, acc, rfl, rfl, SqT.of az, SqT.of upd_same, WK.sz (by omega), fun e => ?_, fun e1 e2 => ?_, fun e1 e2 y ny => ?_⟩
        · subst e
          cases hev
          obtain ⟨f1, f2, f3⟩ := fin _ rfl
          exact q _ _ _ g0z ⟨z, acc, rfl, upd_same, r3.gr gz⟩ f1 f2 f3
        · subst e2
          have : rs = [] := List.length_eq_zero_iff.mp (by simpa using al.symm)
          subst this
          exact q _ _ es g0z ⟨a, xs, rfl, az, hev.gr g0z⟩ hva hok (by omega)
        · obtain ⟨f1, f2, f3⟩ := fin _ rfl
          have gy : Gr [] (upd H5 z (.tup acc)) (upd (upd H5 z (.tup acc)) y (.tup (xs ++ acc))) := Gr.new ny
          exact q _ _ _ (g0z.trans gy) ⟨y, _, rfl, upd_same, Evs.gr (pr_append (hev.gr g0z) (r3.gr gz)) gy⟩ f1 f2 f3
theorem use_ended {H : Hp} {Q : VK} {E : XK} {v : V} {es : List Ev} (h : IsTT H v es) (hv : Valid .nil es) (ho : ∀ e ∈ es, e.ok) (hl : es.length ≤ 60) (k : ∀ (v' : V) (H' : Hp) (es' : List Ev), Gr [] H H' → IsTT H' v' es' → Valid .nil es' → (∀ e ∈ es', e.ok) → es'.length ≤ 2 * es.length → Q v' H') : spEnded [v] H Q E := ⟨v, es, rfl, h, hv, ho, hl, k⟩

end
end PK
namespace PK
open PySem L2
section
variable {P : Program} {w : World} {K : PySem.W.Frag} {mg : Str → Option Value} {base : Heap}
abbrev s_law_lots : Stmt := topS 18
abbrev N_law_lots : List Str := ["_law_box_here", "_law_most", "_law_names", "_law_lots_here", "_law_word", "_law_signs", "_law_some", "_law_sign", "_law_own_so"]
abbrev ps_law_lots : List Str := ["_law_box_here", "_law_most", "_law_names"]
theorem sc_law_lots : FnScope N_law_lots ps_law_lots (defScope s_law_lots) := ⟨rfl, rfl, rfl, by decide +kernel, rfl, by decide +kernel, by decide +kernel⟩
def spLots : Sp := fun vs H Q _ => ∃ (b nl : Addr) (m : Nat) (most : Int) (names : List Str), vs = [.ref b, .int most, .ref nl] ∧
  Bx H b (m + 5 * names.length) ∧ H nl = some (.lst (names.map V.str)) ∧ nl ≠ b ∧ names.length ≤ 100 ∧ (∀ k ∈ names, KeyOk k) ∧ most ≤ 1000 ∧
  ∀ (l : Addr) (rs : List Addr) (ess : List (List Ev)) (H' : Hp), Gr [b] H H' → Bx H' b m → LotsAt H' l rs ess → H l = none → (∀ r ∈ rs, H r = none) → ((total ess : Nat) : Int) ≤ max most 0 → (∀ es ∈ ess, es ≠ []) → Q (.ref l) H'
structure LoAt (H0 H : Hp) (b l : Addr) (m : Nat) (most : Int) (i : Nat) (rs : List Addr) (ess : List (List Ev)) : Prop where
  g : Gr [b] H0 H
  bx : Bx H b m
  lo : LotsAt H l rs ess
  fr : ∀ r ∈ rs, H0 r = none
  to : ((total ess : Nat) : Int) ≤ max most 0
  ne : ∀ es ∈ ess, es ≠ []
  len : ess.length ≤ i
theorem has_lots (D : Df K mg "_law_lots" s_law_lots ps_law_lots) (T : Txt mg) (G_law_take : Has P w K mg base 1 "_law_take" ps_law_take spTake) :
    Has P w K mg base 2 "_law_lots" ps_law_lots spLots := Has.mk' D fun f fd F => by
  refine F.ok sc_law_lots (fun vs H Q E h => ?_) (fun cdv A outer s H vs Q E hr h => ?_)
  · obtain ⟨b, nl, m, most, names, rfl, _⟩ := h
    rfl
  · obtain ⟨b, nl, m, most, names, rfl, hb, hnl, nnb, nlen, hkeys, hmost, q⟩ := h
    refine ⟨_, (pss_cons (ps_set (i := 3) sc_law_lots.nd rfl (Or.inl rfl) (pe_lst pa_nil))
(pss_cons (ps_for PassesOwn.never rfl (pi_list (pv 2)) (pg_name (i := 4) sc_law_lots.nd rfl (Or.inr rfl))
  (pss_cons (ps_set (i := 5) sc_law_lots.nd rfl (Or.inl rfl) (pe_ix (ix_listK (K := K)) (pe_lst (pa_cons pe_str (pa_cons pe_str (pa_cons pe_str (pa_cons pe_str (pa_cons pe_str (pa_cons pe_str pa_nil))))))) (pe_callH G_law_take (hr.mono (by decide)) (by rfl) (pa_cons (pv 0) (pa_cons pe_int pa_nil))) (fun _ _ => rfl)))
  (pss_cons (ps_setLc (i := 6) (own := [("_law_sign", 7)]) (g := gName 7)  rfl sc_law_lots.nd rfl rfl (sw_true rfl rfl rfl (by decide +kernel)) (pi_str (pv 5)) (blkOk_by (own := [("_law_sign", 7)]) (N := N_law_lots) (sc := defScope s_law_lots) (by decide +kernel)) (fun _ _ _ _ _ => pg_name (i := 7) sc_law_lots.nd rfl (Or.inl rfl)) (fun _ _ _ _ _ => pts_nil) (fun _ _ _ _ _ => (pe_ifExp (pt_cmpR op_eq (pv 7) pe_str (nomark _)) (pe_tup (pa_cons pe_str (pa_cons (pv 4) (pa_cons (pe_callH G_law_take (hr.mono (by decide)) (by rfl) (pa_cons (pv 0) (pa_cons pe_int pa_nil))) pa_nil)))) (pe_tup (pa_cons pe_str (pa_cons (pv 4) pa_nil))))))
  (pss_one (ps_if (pt_cmpR op_le (pe_op op_add (pe_callB (cr_sumK (K := K) rfl) (by rfl) T.m_sum (by decide +kernel) (pa_cons (pe_lc (own := [("_law_own_so", 8)]) (g := gName 8)  rfl sc_law_lots.nd (pi_list (pv 3)) (blkOk_by (own := [("_law_own_so", 8)]) (N := N_law_lots) (sc := defScope s_law_lots) (by decide +kernel)) (fun _ _ _ _ _ => pg_name (i := 8) sc_law_lots.nd rfl (Or.inl rfl)) (fun _ _ _ _ _ => pts_nil) (fun _ _ _ _ _ => (pe_callB (call_len_seqK (K := K)) (by rfl) T.m_len (by decide +kernel) (pa_cons (pv 8) pa_nil)))) pa_nil)) (pe_callB (call_len_seqK (K := K)) (by rfl) T.m_len (by decide +kernel) (pa_cons (pv 6) pa_nil))) (pv 1) (nomark _))
    (pss_one (ps_expr (pe_bm PySem.F.plainAttrs_list PySem.F.slot_list_append PySem.F.type_list_append mt_append (pv 3) (pa_cons (pv 6) pa_nil))))
    pss_nil)))))
(pss_one (ps_ret (pv 3))))), ?_⟩
    walk_at "w"
    refine ⟨WK.sz, fun L nL => ?_⟩
    walk_at "w"
    obtain ⟨bl, hbl⟩ := hb.lst
    have nbL : b ≠ L := ne_of_none hbl nL
    have nnL : nl ≠ L := ne_of_none hnl nL
    have g0 : Gr [] H (upd H L (.lst [])) := Gr.new nL
    have hb0 := hb.keep g0 (by simp)
    have hn0 := g0.k0 hnl
    have l0 : (upd H L (.lst [])) L = some (.lst []) := upd_same
    generalize (upd H L (.lst [])) = H0 at *
    refine ⟨⟨_, SqL.of hn0⟩, lp_list (xs := names.map V.str) (fun i σ' H' => ∃ rs ess y4 y5 y6, σ' = [some (.ref b), some (.int most), some (.ref nl), some (.ref L), y4, y5, y6, none, none] ∧ LoAt H H' b L (m + 5 * (names.length - i)) most i rs ess)
      ⟨[], [], none, none, none, rfl, g0.mono (by simp), hb0.mono (by omega), ⟨.nil, .nil, by simp, by simp, l0⟩, by simp, by show ((0 : Nat) : Int) ≤ _; omega, by simp, Nat.le_refl _⟩ (fun i σ' H' _ ⟨_, _, _, _, _, _, t⟩ => SqL.of (t.g.k1 hnl nnb)) ?_ ?_⟩
    · rintro i x _ H2 hx ⟨rs, ess, y4, y5, y6, rfl, t⟩
      have hi : i < names.length := by
        have z := (List.getElem?_eq_some_iff.mp hx).1
        rw [List.length_map] at z
        exact z
      obtain ⟨ky, hky, rfl⟩ : ∃ ky, ky ∈ names ∧ x = V.str ky := by
        rw [List.getElem?_map, List.getElem?_eq_getElem hi] at hx
        exact ⟨_, List.getElem_mem hi, (Option.some.inj hx).symm⟩
      walk_at "w"
      refine ⟨WK.sz, fun c nc => ?_⟩
      walk_at "w"
      have g3 : Gr [] H2 (upd H2 c (.lst [.str "pd", .str "pd", .str "ppd", .str "pdpd", .str "dpd", .str "pdp"])) := Gr.new nc
      have hc3 : (upd H2 c (.lst [.str "pd", .str "pd", .str "ppd", .str "pdpd", .str "dpd", .str "pdp"])) c = some (.lst [.str "pd", .str "pd", .str "ppd", .str "pdpd", .str "dpd", .str "pdp"]) := upd_same
      have ncb : c ≠ b := fun e => by
        obtain ⟨_, z⟩ := t.bx.lst
        rw [← e, nc] at z
        cases z
      have hb3 := t.bx.keep g3 (by simp)
      have lo3 := t.lo.keep g3 (by simp) (by simp)
      have g03 := t.g.trans (g3.mono (by simp))
      generalize (upd H2 c (.lst [.str "pd", .str "pd", .str "ppd", .str "pdpd", .str "dpd", .str "pdp"])) = H3 at *
      refine use_take (n := m + 5 * (names.length - (i + 1)) + 4) (hb3.mono (by omega)) (by omega) (by omega) (fun r H4 r0 r1 g4 hb4 => ?_)
      have hc4 := g4.k1 hc3 ncb
      obtain ⟨z, hz, z1, z2⟩ : ∃ z : Str, ([.str "pd", .str "pd", .str "ppd", .str "pdpd", .str "dpd", .str "pdp"] : List V)[r.toNat]? = some (.str z) ∧ 1 ≤ z.cps.size ∧ z.cps.size ≤ 4 := by
        have e : r = 0 ∨ r = 1 ∨ r = 2 ∨ r = 3 ∨ r = 4 ∨ r = 5 := by omega
        rcases e with e | e | e | e | e | e <;> subst e <;> exact ⟨_, rfl, by decide +kernel, by decide +kernel⟩
      refine ⟨c, _, r, _, rfl, rfl, SqL.of hc4, WK.at_ofG (j := r.toNat) (by omega) hz, ?_⟩
      walk_at "w"
      have nLb : L ≠ b := nbL.symm
      have nrb : ∀ x ∈ rs, x ≠ b := fun x hx e => by
        rw [e] at hx
        rw [t.fr b hx] at hbl
        cases hbl
      have lo4 := lo3.keep g4 (by simpa using nLb) (by simpa using nrb)
      have g04 := g03.trans g4
      refine ⟨_, rfl, ?_⟩
      refine lc_go walk_str (fun Dn j acc H' => H4 Dn = none ∧ Gr [b] H4 H' ∧ Bx H' b (m + 5 * (names.length - (i + 1)) + (4 - j)) ∧ ∃ es, Evs H' acc es ∧ es.length = j ∧ ∀ e ∈ es, e.ent)
        (fun Dn nD => ⟨nD, Gr.new nD, (hb4.keep (Gr.new (M := []) nD) (by simp)).mono (by omega), [], .nil, rfl, by simp⟩) (fun _ _ _ _ _ _ => trivial) ?_ ?_
      · rintro Dn j acc x H5 H6 nD hj hD la ⟨nD4, g5, hb5, es, he5, hl5, hen⟩ ⟨rfl, ch, hch, rfl⟩
        have nDb : Dn ≠ b := fun e => by
          obtain ⟨_, z⟩ := hb4.lst
          rw [← e, nD] at z
          cases z
        walk_at "w"
        refine ⟨rfl, ?_⟩
        walk_at "w"
        refine WK.w_ifP rfl ?_
        walk_at "i"
        refine WK.w_2 (fun h => ?_) (fun h => ?_)
        · walk_at "w"
          refine use_take (n := m + 5 * (names.length - (i + 1)) + (4 - (j + 1))) (hb5.mono (by omega)) (by omega) (by omega) (fun x H7 x0 x1 g7 hb7 => ?_)
          walk_at "w"
          refine ⟨WK.sz, fun y ny => ?_⟩
          have gy : Gr [] H7 (upd H7 y (.tup [.str "put", .str ky, .int x])) := Gr.new ny
          have hDy := gy.k0 (g7.k1 hD nDb)
          have gD : Gr [Dn] (upd H7 y (.tup [.str "put", .str ky, .int x])) _ := Gr.mutL (o := .lst (acc ++ [.ref y])) hDy (by simp)
          refine lc_yes hDy la (by omega) ⟨nD4, ((g5.trans g7).trans (gy.mono (by simp))).own (gD.mono (by simp)) nD4, ?_, es ++ [.put ky x], ?_, by rw [List.length_append, hl5]; rfl, ?_⟩
          · exact (hb7.keep gy (by simp)).keep gD (by simpa using nDb.symm)
          · exact pr_append (((he5.gr g7).gr gy).gr gD) (.cons ⟨y, rfl, gD.tup _ _ upd_same⟩ .nil)
          · intro e he
            rcases List.mem_append.mp he with z | z
            · exact hen e z
            · rw [List.mem_singleton] at z
              subst z
              exact ⟨hkeys _ hky, x0, x1⟩
        · walk_at "w"
          refine ⟨WK.sz, fun y ny => ?_⟩
          have gy : Gr [] H6 (upd H6 y (.tup [.str "drop", .str ky])) := Gr.new ny
          have hDy := gy.k0 hD
          have gD : Gr [Dn] (upd H6 y (.tup [.str "drop", .str ky])) _ := Gr.mutL (o := .lst (acc ++ [.ref y])) hDy (by simp)
          refine lc_yes hDy la (by omega) ⟨nD4, (g5.trans (gy.mono (by simp))).own (gD.mono (by simp)) nD4, ?_, es ++ [.drop ky], ?_, by rw [List.length_append, hl5]; rfl, ?_⟩
          · exact ((hb5.keep gy (by simp)).keep gD (by simpa using nDb.symm)).mono (by omega)
          · exact pr_append ((he5.gr gy).gr gD) (.cons ⟨y, rfl, gD.tup _ _ upd_same⟩ .nil)
          · intro e he
            rcases List.mem_append.mp he with z | z
            · exact hen e z
            · rw [List.mem_singleton] at z
              subst z
              exact hkeys _ hky
      · rintro Dn acc H5 nD hD la ⟨-, g5, hb5, es, he5, hl5, hen⟩
        have nDb : Dn ≠ b := fun e => by
          obtain ⟨_, z⟩ := hb4.lst
          rw [← e, nD] at z
          cases z
        have nDL : Dn ≠ L := (ne_of_none lo4.l nD).symm
        have nDr : ∀ x ∈ rs, x ≠ Dn := fun x hx e => by
          obtain ⟨es', _, xs', h1, _⟩ := mem_of_pr lo4.r hx
          rw [e, nD] at h1
          cases h1
        have lo5 := lo4.keep g5 (by simpa using nLb) (by simpa using nrb)
        have g05 := g04.trans g5
        have essl := lo4.r.length
        have len := t.len
        walk_at "w"
        walk_at "i"
        refine ⟨⟨_, SqL.of lo5.l⟩, ?_⟩
        refine lc_go (walk_list (K := K) (a := L) (xs := rs.map V.ref)) (fun Cn j acc H' => Gr [] H5 H' ∧ acc = (ess.take j).map fun es => V.int ((es.length : Nat) : Int))
          (fun Cn nC => ⟨Gr.new nC, rfl⟩) (fun Cn j acc H' _ ⟨g, _⟩ => SqL.of (g.k0 lo5.l)) ?_ ?_
        · rintro Cn j ac x H6 H7 nC hj hC lc ⟨g6, rfl⟩ ⟨rfl, hx⟩
          rw [List.length_map] at hj
          have er : rs[j]? = some rs[j] := List.getElem?_eq_getElem hj
          have ex : x = V.ref rs[j] := by
            rw [List.getElem?_map, er] at hx
            exact (Option.some.inj hx).symm
          subst ex
          obtain ⟨es1, he1, xs1, hr1, hv1⟩ := pr_get lo5.r er
          walk_at "w"
          refine ⟨rfl, ?_⟩
          walk_at "w"
          refine WK.w_ifP rfl ?_
          walk_at "w"
          refine w_len (g6.k0 hr1) ?_
          have gD : Gr [Cn] H7 (upd H7 Cn (.lst (((ess.take j).map fun es => V.int ((es.length : Nat) : Int)) ++ [.int (xs1.length : Nat)]))) := Gr.mutL hC (by simp)
          refine lc_yes hC lc (by omega) ⟨g6.own gD nC, ?_⟩
          rw [take_snoc he1, List.map_append, hv1.length]
          rfl
        · rintro Cn ac H6 nC hC lc ⟨g6, rfl⟩
          rw [List.length_map, essl, List.take_length] at hC
          walk_at "w"
          refine ⟨Cn, ess.map fun es => ((es.length : Nat) : Int), rfl, SqL.of (by rw [hC, List.map_map]; rfl), ?_⟩
          rw [sum_ints]
          walk_at "w"
          have hD6 := g6.k0 hD
          refine w_len hD6 ?_
          walk_at "w"
          have al : acc.length = z.cps.size := by rw [he5.length, hl5]
          refine WK.w_2 (fun h => ?_) (fun h => ?_)
          · walk_at "w"
            have lo6 := lo5.keep g6 (by simp) (by simp)
            refine ⟨.inl ⟨rfl, _, SqL.of lo6.l⟩, ?_⟩
            walk_at "w"
            have rl : rs.length ≤ 100 := by omega
            refine ⟨L, _, _, rfl, rfl, lo6.l, WK.sz' (by rw [List.length_map]; omega), ?_⟩
            have g7 : Gr [L] H6 (upd H6 L (.lst (rs.map V.ref ++ [.ref Dn]))) := Gr.mutL lo6.l (by simp)
            refine ⟨rs ++ [Dn], ess ++ [es], _, _, _, rfl, ?_, ?_, ⟨?_, ?_, ?_, ?_, ?_⟩, ?_, ?_, ?_, ?_⟩
            · exact (g05.trans (g6.mono (by simp))).own (g7.mono (by simp)) nL
            · exact (((hb5.keep g6 (by simp)).keep g7 (by simpa using nbL)).mono (by omega))
            · exact nd_snoc lo6.nd fun hx => nDr Dn hx rfl
            · refine pr_append (rows_keep g7 lo6.r fun x hx => ?_) (.cons ⟨acc, g7.keep _ _ (by simpa using nDL) hD6, (he5.gr g6).gr g7⟩ .nil)
              have z' : x ≠ L := fun e => lo6.nl (e ▸ hx)
              simpa using z'
            · intro hx
              rcases List.mem_append.mp hx with z' | z'
              · exact lo6.nl z'
              · rw [List.mem_singleton] at z'
                exact nDL z'.symm
            · intro es' he'
              rcases List.mem_append.mp he' with z' | z'
              · exact lo6.en es' z'
              · rw [List.mem_singleton] at z'
                subst z'
                exact hen
            · rw [upd_same, List.map_append]
              rfl
            · intro x hx
              rcases List.mem_append.mp hx with z' | z'
              · exact t.fr x z'
              · rw [List.mem_singleton] at z'
                subst z'
                exact g04.live _ nD
            · rw [total_append]
              show ((total ess + (es.length + 0) : Nat) : Int) ≤ _
              have e1 : es.length = acc.length := he5.length.symm
              omega
            · intro es' he'
              rcases List.mem_append.mp he' with z' | z'
              · exact t.ne es' z'
              · rw [List.mem_singleton] at z'
                subst z'
                intro e0
                rw [e0] at hl5
                simp at hl5
                omega
            · rw [List.length_append, List.length_singleton]
              omega
          · walk_at "w"
            have lo6 := lo5.keep g6 (by simp) (by simp)
            exact ⟨rs, ess, _, _, _, rfl, g05.trans (g6.mono (by simp)), (hb5.keep g6 (by simp)).mono (by omega), lo6, t.fr, t.to, t.ne, by omega⟩
    · rintro _ H2 ⟨rs, ess, y4, y5, y6, rfl, t⟩
      walk_at "w"
      exact q L rs ess _ t.g (t.bx.mono (by omega)) t.lo nL t.fr t.to t.ne

end
end PK
namespace PK
open PySem L2
section
variable {P : Program} {w : World} {K : PySem.W.Frag} {mg : Str → Option Value} {base : Heap}
abbrev s_law_beside : Stmt := topS 19
abbrev N_law_beside : List Str := ["_law_box_here", "_law_w", "_law_folk", "_law_found", "_law_p", "_law_way", "_law_gap"]
abbrev ps_law_beside : List Str := ["_law_box_here", "_law_w", "_law_folk"]
theorem sc_law_beside : FnScope N_law_beside ps_law_beside (defScope s_law_beside) := ⟨rfl, rfl, rfl, by decide +kernel, rfl, by decide +kernel, by decide +kernel⟩
structure BsAt (H0 H : Hp) (b f : Addr) (m i : Nat) (st : WS) (es : List Ev) (xs : List V) : Prop where
  g : Gr [b] H0 H
  bx : Bx H b m
  l : H f = some (.lst xs)
  ev : Evs H xs es
  va : Valid st es
  ok : ∀ e ∈ es, e.ok
  len : es.length ≤ i
theorem BsAt.gr {H0 H H1 : Hp} {b f : Addr} {m i : Nat} {st : WS} {es : List Ev} {xs : List V} (t : BsAt H0 H b f m i st es xs) (g : Gr [] H H1) : BsAt H0 H1 b f m i st es xs :=
  ⟨t.g.trans (g.mono (by simp)), t.bx.keep g (by simp), g.k0 t.l, t.ev.gr g, t.va, t.ok, t.len⟩
theorem BsAt.take {H0 H H1 : Hp} {b f : Addr} {m m' i : Nat} {st : WS} {es : List Ev} {xs : List V} (t : BsAt H0 H b f m i st es xs) (g : Gr [b] H H1) (hb : Bx H1 b m') (n : f ≠ b) : BsAt H0 H1 b f m' i st es xs :=
  ⟨t.g.trans g, hb, g.k1 t.l n, t.ev.gr g, t.va, t.ok, t.len⟩
/-- one more event at the end -/
theorem BsAt.add {H0 H : Hp} {b f : Addr} {m i : Nat} {st : WS} {es : List Ev} {xs : List V} {e : Ev} {a : Addr} (t : BsAt H0 H b f m i st es xs) (he : H a = some (.tup e.vs)) (hf : (st.run es).fits e) (ho : e.ok) (n0 : H0 f = none) (nb : f ≠ b) :
    BsAt H0 (upd H f (.lst (xs ++ [.ref a]))) b f m (i + 1) st (es ++ [e]) (xs ++ [.ref a]) := by
  have g : Gr [f] H (upd H f (.lst (xs ++ [.ref a]))) := Gr.mutL t.l (by simp)
  refine ⟨t.g.own (g.mono (by simp)) n0, t.bx.keep g (by simpa using nb.symm), upd_same, pr_append (t.ev.gr g) (.cons ⟨a, rfl, g.tup _ _ he⟩ .nil), valid_snoc t.va hf, ?_, ?_⟩
  · intro x hx
    rcases List.mem_append.mp hx with z | z
    · exact t.ok x z
    · rw [List.mem_singleton] at z
      rw [z]
      exact ho
  · rw [List.length_append, List.length_singleton]
    have := t.len
    omega
def spBeside : Sp := fun vs H Q _ => ∃ (b w sd cl : Addr) (st : WS) (n m k : Nat), vs = [.ref b, .ref w, .int (k : Int)] ∧
  Bx H b (m + 2 * k + 3) ∧ WAt H w sd cl st n ∧ n ≤ 1000 ∧ b ≠ cl ∧ 1 ≤ k ∧ k ≤ 4 ∧ Gd st n ∧ (∀ p : Int, 0 ≤ p → p < k → (st.seats p).isSome = true) ∧
  ∀ (f : Addr) (xs : List V) (es : List Ev) (H' : Hp), BsAt H H' b f m (k + 1) st es xs → H f = none → Q (.ref f) H'
theorem has_beside (D : Df K mg "_law_beside" s_law_beside ps_law_beside) (T : Txt mg) (G_law_take : Has P w K mg base 1 "_law_take" ps_law_take spTake) :
    Has P w K mg base 2 "_law_beside" ps_law_beside spBeside := Has.mk' D fun f fd F => by
  refine F.ok sc_law_beside (fun vs H Q E h => ?_) (fun cdv A outer s H vs Q E hr h => ?_)
  · obtain ⟨b, w, sd, cl, st, n, m, k, rfl, _⟩ := h
    rfl
  · obtain ⟨b, wa, sd, cl, st, n, m, k, rfl, hb, hw, hn, nbc, k1, k4, gd, hj, q⟩ := h
    refine ⟨_, (pss_cons (ps_set (i := 3) sc_law_beside.nd rfl (Or.inl rfl) (pe_lst pa_nil))
(pss_cons (ps_for PassesOwn.never rfl (pi_range1 (by rfl) T.m_range (pa_cons (pv 2) pa_nil)) (pg_name (i := 4) sc_law_beside.nd rfl (Or.inl rfl))
  (pss_cons (ps_set (i := 6) sc_law_beside.nd rfl (Or.inl rfl) (pe_op op_sub (pe_dget (hu_of hr) (pv 1) pe_str (fun _ _ => rfl)) (pe_dget (hu_of hr) (pe_dget (hu_of hr) (pv 1) pe_str (fun _ _ => rfl)) (pv 4) (fun _ _ => rfl))))
  (pss_one (ps_if (PW.pt (pw_and (pt_cmpR op_gt (pv 6) pe_int (nomark _)) (pw_and1 (pt_cmpR op_eq (pe_callH G_law_take (hr.mono (by decide)) (by rfl) (pa_cons (pv 0) (pa_cons pe_int pa_nil))) pe_int (nomark _)))))
    (pss_one (ps_expr (pe_bm PySem.F.plainAttrs_list PySem.F.slot_list_append PySem.F.type_list_append mt_append (pv 3) (pa_cons (pe_tup (pa_cons pe_str (pa_cons (pv 4) (pa_cons (pe_op op_add (pe_op op_add (pe_dget (hu_of hr) (pe_dget (hu_of hr) (pv 1) pe_str (fun _ _ => rfl)) (pv 4) (fun _ _ => rfl)) pe_int) (pe_callH G_law_take (hr.mono (by decide)) (by rfl) (pa_cons (pv 0) (pa_cons (pv 6) pa_nil)))) pa_nil)))) pa_nil))))
    pss_nil))))
(pss_cons (ps_par (i := 5) (j := 4) (by rfl) sc_law_beside.nd rfl rfl (by decide) rfl rfl (pa_cons (pe_callH G_law_take (hr.mono (by decide)) (by rfl) (pa_cons (pv 0) (pa_cons pe_int pa_nil))) (pa_cons (pe_callH G_law_take (hr.mono (by decide)) (by rfl) (pa_cons (pv 0) (pa_cons (pv 2) pa_nil))) pa_nil)) (by rfl))
(pss_cons (ps_if (pt_cmpR op_eq (pv 5) pe_int (nomark _))
  (pss_one (ps_expr (pe_bm PySem.F.plainAttrs_list PySem.F.slot_list_append PySem.F.type_list_append mt_append (pv 3) (pa_cons (pe_tup (pa_cons pe_str pa_nil)) pa_nil))))
  pss_nil)
(pss_cons (ps_if (PW.pt (pw_and (pt_cmpR op_eq (pv 5) pe_int (nomark _)) (pw_and1 (pt_cmpR op_lt (pe_callB (call_len_seqK (K := K)) (by rfl) T.m_len (by decide +kernel) (pa_cons (pe_dget (hu_of hr) (pv 1) pe_str (fun _ _ => rfl)) pa_nil)) pe_int (nomark _)))))
  (pss_one (ps_expr (pe_bm PySem.F.plainAttrs_list PySem.F.slot_list_append PySem.F.type_list_append mt_append (pv 3) (pa_cons (pe_tup (pa_cons pe_str (pa_cons (pv 4) pa_nil))) pa_nil))))
  pss_nil)
(pss_cons (ps_if (PW.pt (pw_and (pt_cmpR op_eq (pv 5) pe_int (nomark _)) (pw_and1 (pt_cmpR (op_neDK (K := K) hr.units) (pe_dget (hu_of hr) (pv 1) pe_str (fun _ _ => rfl)) (pe_lst pa_nil) (nomark _)))))
  (pss_one (ps_expr (pe_bm PySem.F.plainAttrs_list PySem.F.slot_list_append PySem.F.type_list_append mt_append (pv 3) (pa_cons (pe_tup (pa_cons pe_str (pa_cons (pv 4) (pa_cons (pe_callH G_law_take (hr.mono (by decide)) (by rfl) (pa_cons (pv 0) (pa_cons (pe_callB (call_len_seqK (K := K)) (by rfl) T.m_len (by decide +kernel) (pa_cons (pe_dget (hu_of hr) (pv 1) pe_str (fun _ _ => rfl)) pa_nil)) pa_nil))) pa_nil)))) pa_nil))))
  pss_nil)
(pss_cons (ps_if (pt_cmpR op_eq (pv 5) pe_int (nomark _))
  (pss_one (ps_expr (pe_bm PySem.F.plainAttrs_list PySem.F.slot_list_append PySem.F.type_list_append mt_append (pv 3) (pa_cons (pe_tup (pa_cons pe_str (pa_cons (pv 4) pa_nil))) pa_nil))))
  pss_nil)
(pss_one (ps_ret (pv 3)))))))))), ?_⟩
    walk_at "w"
    refine ⟨WK.sz, fun f nf => ?_⟩
    walk_at "w"
    obtain ⟨bl, hbl⟩ := hb.lst
    have nfb : f ≠ b := (ne_of_none hbl nf).symm
    have nbw : b ≠ wa := ne_of hbl hw.w (by intro z; cases z)
    have nbs : b ≠ sd := by
      obtain ⟨kvs, ks, hs, _⟩ := hw.s
      exact ne_of hbl hs (by intro z; cases z)
    have g0 : Gr [] H (upd H f (.lst [])) := Gr.new nf
    have t0 : BsAt H (upd H f (.lst [])) b f (m + 2 * k + 3) 0 st [] [] := ⟨g0.mono (by simp), hb.keep g0 (by simp), upd_same, .nil, True.intro, by simp, Nat.le_refl _⟩
    have wk : ∀ {H' : Hp}, Gr [b] H H' → WAt H' wa sd cl st n := fun g => hw.keep g (by simpa using nbw.symm) (by simpa using nbs.symm) (by simpa using nbc.symm)
    have sm : st.many ≤ 1000 := by have := gd.m1; omega
    refine ⟨by omega, by omega, lp_range (fun i σ' H' => ∃ xs es y4 y6, σ' = [some (.ref b), some (.ref wa), some (.int (k : Int)), some (.ref f), y4, none, y6] ∧ BsAt H H' b f (m + 2 * (k - i) + 3) i st es xs ∧ (∀ r : Int, i ≤ r → (st.run es).seats r = st.seats r) ∧ (st.run es).many = st.many ∧ (st.run es).copies = st.copies)
      ⟨[], [], none, none, rfl, t0, fun _ _ => rfl, rfl, rfl⟩ ?_ ?_⟩
    · rintro i _ H2 hi ⟨xs, es, y4, y6, rfl, t, s1, s2, s3⟩
      have hi' : i < k := by omega
      have hw2 := wk t.g
      obtain ⟨p, hp⟩ := Option.isSome_iff_exists.mp (hj i (by omega) (by omega))
      have p0 := gd.s _ _ hp
      have hg := hw2.g_seat (0 + (i : Int))
      rw [Int.zero_add, hp] at hg
      have tl := t.len
      have xl := t.ev.length
      have skip : ∀ H', BsAt H H' b f (m + 2 * (k - (i + 1)) + 3) i st es xs → ∀ y6', ∃ xs es y4 y6, [some (.ref b), some (.ref wa), some (V.int (k : Int)), some (.ref f), some (V.int (0 + (i : Int))), none, y6'] = [some (.ref b), some (.ref wa), some (V.int (k : Int)), some (.ref f), y4, none, y6] ∧ BsAt H H' b f (m + 2 * (k - (i + 1)) + 3) (i + 1) st es xs ∧ (∀ r : Int, ((i + 1 : Nat) : Int) ≤ r → (st.run es).seats r = st.seats r) ∧ (st.run es).many = st.many ∧ (st.run es).copies = st.copies := fun H' t' y6' =>
        ⟨xs, es, _, _, rfl, ⟨t'.g, t'.bx, t'.l, t'.ev, t'.va, t'.ok, by omega⟩, fun r hr => s1 r (by omega), s2, s3⟩
      walk_at "w"
      refine ⟨_, _, rfl, hw2.g_many, ?_⟩
      walk_at "w"
      refine ⟨_, _, rfl, hw2.g_seats, ?_⟩
      walk_at "w"
      rw [Int.zero_add] at *
      refine ⟨_, _, rfl, hg, ?_⟩
      walk_at "w"
      refine WK.w_if ?_
      walk_at "i"
      refine WK.w_2 (fun h1 => ?_) (fun h1 => ?_)
      · walk_at "w"
        refine use_take (n := m + 2 * (k - (i + 1)) + 4) (t.bx.mono (by omega)) (by omega) (by omega) (fun r H3 r0 r1 g3 hb3 => ?_)
        have t3 := t.take g3 hb3 nfb
        have hw3 := wk t3.g
        have hg3 := hw3.g_seat (i : Int)
        rw [hp] at hg3
        walk_at "w"
        refine WK.w_2 (fun h2 => ?_) (fun h2 => ?_)
        · walk_at "w"
          refine ⟨.inl ⟨rfl, xs, SqL.of t3.l⟩, ?_⟩
          walk_at "w"
          refine ⟨_, _, rfl, hw3.g_seats, ?_⟩
          walk_at "w"
          refine ⟨_, _, rfl, hg3, ?_⟩
          walk_at "w"
          refine use_take (n := m + 2 * (k - (i + 1)) + 3) (hb3.mono (by omega)) (by omega) (by omega) (fun x H4 x0 x1 g4 hb4 => ?_)
          have t4 := t3.take g4 hb4 nfb
          walk_at "w"
          refine ⟨WK.sz, fun z nz => ?_⟩
          have t5 := t4.gr (Gr.new (o := .tup [.str "read", .int (i : Int), .int (p + 1 + x)]) nz)
          walk_at "w"
          refine ⟨f, xs, _, rfl, rfl, t5.l, WK.sz' (by omega), ?_⟩
          have hf : (st.run es).fits (.read i (p + 1 + x)) := ⟨p, by rw [s1 i (by omega)]; exact hp, by omega, by rw [s2]; omega⟩
          have t6 := t5.add (e := .read i (p + 1 + x)) upd_same hf ⟨⟨by omega, by omega⟩, by omega⟩ nf nfb
          refine ⟨_, _, _, _, rfl, t6, fun r hr => ?_, ?_, ?_⟩
          · rw [run_snoc]
            show (if r = (i : Int) then some (p + 1 + x) else (st.run es).seats r) = _
            rw [if_neg (by omega)]
            exact s1 r (by omega)
          · rw [run_snoc]
            exact s2
          · rw [run_snoc]
            exact s3
        · exact skip _ ⟨t3.g, t3.bx.mono (by omega), t3.l, t3.ev, t3.va, t3.ok, t3.len⟩ _
      · exact skip _ ⟨t.g, t.bx.mono (by omega), t.l, t.ev, t.va, t.ok, t.len⟩ _
    · rintro _ H2 ⟨xs, es, y4, y6, rfl, t, -, s2, s3⟩
      have tl := t.len
      have xl := t.ev.length
      walk_at "w"
      refine use_take (n := m + 2) (t.bx.mono (by omega)) (by omega) (by omega) (fun way H3 w0 w1 g3 hb3 => ?_)
      walk_at "w"
      refine use_take (n := m + 1) hb3 (by omega) (by omega) (fun p H4 p0 p1 g4 hb4 => ?_)
      have t4 := (t.take g3 hb3 nfb).take g4 hb4 nfb
      clear t hb3 g3 g4
      have hw4 := wk t4.g
      obtain ⟨sp, hsp⟩ := Option.isSome_iff_exists.mp (run_some (es := es) (hj p p0 p1))
      have fin : ∀ {H' : Hp} {m' i : Nat} {es : List Ev} {xs : List V}, BsAt H H' b f m' i st es xs → m ≤ m' → i ≤ k + 1 → Q (.ref f) H' := fun t hm hi => q f _ _ _ ⟨t.g, t.bx.mono hm, t.l, t.ev, t.va, t.ok, Nat.le_trans t.len hi⟩ nf
      have kk : (k : Int).toNat = k := by omega
      walk_at "w"
      walk_at "i"
      refine WK.w_2 (fun h0 => ?_) (fun h0 => ?_)
      · subst h0
        walk_at "w"
        refine ⟨.inl ⟨rfl, xs, SqL.of t4.l⟩, ?_⟩
        walk_at "w"
        refine ⟨WK.sz, fun z nz => ?_⟩
        have t5 := t4.gr (Gr.new (o := .tup [.str "wait"]) nz)
        walk_at "w"
        refine ⟨f, xs, _, rfl, rfl, t5.l, WK.sz' (by omega), ?_⟩
        have t6 := t5.add (e := .wait) upd_same True.intro True.intro nf nfb
        walk_at "w"
        refine WK.w_if ?_
        walk_at "i"
        refine WK.w_ifN (by decide) ?_
        refine WK.w_ifN (by decide) ?_
        walk_at "w"
        refine WK.w_if ?_
        walk_at "i"
        refine WK.w_ifN (by decide) ?_
        refine WK.w_ifN (by decide) ?_
        walk_at "w"
        walk_at "i"
        refine WK.w_ifN (by decide) ?_
        walk_at "w"
        exact fin t6 (by omega) (by omega)
      walk_at "w"
      refine WK.w_if ?_
      walk_at "i"
      refine WK.w_2 (fun h1 => ?_) (fun h1 => ?_)
      · subst h1
        walk_at "w"
        refine ⟨_, _, rfl, hw4.g_copies, ?_⟩
        walk_at "w"
        refine w_len hw4.c ?_
        walk_at "w"
        refine WK.w_2 (fun h2 => ?_) (fun h2 => ?_)
        · walk_at "w"
          refine ⟨.inl ⟨rfl, xs, SqL.of t4.l⟩, ?_⟩
          walk_at "w"
          refine ⟨WK.sz, fun z nz => ?_⟩
          have t5 := t4.gr (Gr.new (o := .tup [.str "save", .int p]) nz)
          walk_at "w"
          refine ⟨f, xs, _, rfl, rfl, t5.l, WK.sz' (by omega), ?_⟩
          have t6 := t5.add (e := .save p) upd_same ⟨sp, hsp⟩ ⟨p0, by omega⟩ nf nfb
          walk_at "w"
          refine WK.w_if ?_
          walk_at "i"
          refine WK.w_ifN (by decide) ?_
          refine WK.w_ifN (by decide) ?_
          walk_at "w"
          walk_at "i"
          refine WK.w_ifN (by decide) ?_
          walk_at "w"
          exact fin t6 (by omega) (by omega)
        · walk_at "w"
          refine WK.w_if ?_
          walk_at "i"
          refine WK.w_ifN (by decide) ?_
          refine WK.w_ifN (by decide) ?_
          walk_at "w"
          walk_at "i"
          refine WK.w_ifN (by decide) ?_
          walk_at "w"
          exact fin t4 (by omega) (by omega)
      refine WK.w_ifN (by decide) ?_
      walk_at "w"
      refine WK.w_if ?_
      walk_at "i"
      refine WK.w_2 (fun h2 => ?_) (fun h2 => ?_)
      · subst h2
        walk_at "w"
        refine ⟨_, _, rfl, hw4.g_copies, ?_⟩
        walk_at "w"
        refine ⟨WK.sz, fun z nz => ?_⟩
        have t5 := t4.gr (Gr.new (o := .lst []) nz)
        have hw5 := wk t5.g
        have hz5 : (upd H4 z (.lst [])) z = some (.lst []) := upd_same
        generalize (upd H4 z (.lst [])) = H5 at *
        refine w_neNil (n := 0) (SqL.of hw5.c) (dp_ints _) (.ints _) (by decide) hz5 ?_
        walk_at "w"
        refine ite2 (fun h5 => ?_) (fun h5 => ?_)
        · have hc : 0 < st.copies.length := by
            cases e : st.copies with
            | nil => rw [e] at h5; simp at h5
            | cons x y => simp
          have hcn := hw5.cn
          walk_at "w"
          refine ⟨.inl ⟨rfl, xs, SqL.of t5.l⟩, ?_⟩
          walk_at "w"
          refine ⟨_, _, rfl, hw5.g_copies, ?_⟩
          walk_at "w"
          refine w_len hw5.c ?_
          walk_at "w"
          refine use_take (n := m) (t5.bx.mono (by omega)) (by rw [List.length_map]; omega) (by rw [List.length_map]; omega) (fun x H6 x0 x1 g6 hb6 => ?_)
          rw [List.length_map] at x1
          have t6 := t5.take g6 hb6 nfb
          walk_at "w"
          refine ⟨WK.sz, fun y ny => ?_⟩
          have t7 := t6.gr (Gr.new (o := .tup [.str "load", .int p, .int x]) ny)
          walk_at "w"
          refine ⟨f, xs, _, rfl, rfl, t7.l, WK.sz' (by omega), ?_⟩
          have t8 := t7.add (e := .load p x) upd_same (by rw [show (st.run es).fits (.load p x) = (0 ≤ x ∧ x < ((st.run es).copies.length : Nat)) from rfl, s3]; exact ⟨x0, x1⟩) ⟨⟨p0, by omega⟩, x0⟩ nf nfb
          walk_at "w"
          walk_at "i"
          refine WK.w_ifN (by decide) ?_
          walk_at "w"
          exact fin t8 (by omega) (by omega)
        · walk_at "w"
          walk_at "i"
          refine WK.w_ifN (by decide) ?_
          walk_at "w"
          exact fin t5 (by omega) (by omega)
      refine WK.w_ifN (by decide) ?_
      walk_at "w"
      walk_at "i"
      refine WK.w_2 (fun h3 => ?_) (fun h3 => ?_)
      · walk_at "w"
        refine ⟨.inl ⟨rfl, xs, SqL.of t4.l⟩, ?_⟩
        walk_at "w"
        refine ⟨WK.sz, fun z nz => ?_⟩
        have t5 := t4.gr (Gr.new (o := .tup [.str "join", .int p]) nz)
        walk_at "w"
        refine ⟨f, xs, _, rfl, rfl, t5.l, WK.sz' (by omega), ?_⟩
        have t6 := t5.add (e := .join p) upd_same True.intro ⟨p0, by omega⟩ nf nfb
        walk_at "w"
        exact fin t6 (by omega) (by omega)
      · walk_at "w"
        exact fin t4 (by omega) (by omega)

end
end PK
namespace PK
open PySem L2
section
variable {P : Program} {w : World} {K : PySem.W.Frag} {mg : Str → Option Value} {base : Heap}
abbrev s_law_fit : Stmt := topS 20
abbrev N_law_fit : List Str := ["_law_box_here", "_law_most", "_law_folk", "_law_far", "_law_lots_here", "_law_w", "_law_found", "_law_event_so", "_law_own_so", "_law_rest", "_law_p", "_law_some"]
abbrev ps_law_fit : List Str := ["_law_box_here", "_law_most", "_law_folk", "_law_far"]
theorem sc_law_fit : FnScope N_law_fit ps_law_fit (defScope s_law_fit) := ⟨rfl, rfl, rfl, by decide +kernel, rfl, by decide +kernel, by decide +kernel⟩
structure FtAt (H0 H : Hp) (b f w sd cl l : Addr) (m k : Nat) (rs : List Addr) (ess : List (List Ev)) (es : List Ev) (xs : List V) : Prop where
  g : Gr [b] H0 H
  bx : Bx H b m
  wa : WAt H w sd cl (WS.nil.run es) es.length
  fo : H f = some (.lst xs)
  ev : Evs H xs es
  va : Valid .nil es
  ok : ∀ e ∈ es, e.ok
  lo : LotsAt H l rs ess
  jn : ∀ p : Int, 0 ≤ p → p < k → ((WS.nil.run es).seats p).isSome = true
  fl : l ≠ b ∧ l ≠ f ∧ l ≠ w ∧ l ≠ sd ∧ l ≠ cl
  fr : ∀ r ∈ rs, r ≠ b ∧ r ≠ f ∧ r ≠ w ∧ r ≠ sd ∧ r ≠ cl
  rn : ∀ r ∈ rs, H0 r = none
  bn : b ≠ f ∧ b ≠ w ∧ b ≠ sd ∧ b ≠ cl
  fn : f ≠ w ∧ f ≠ sd ∧ f ≠ cl
theorem FtAt.gr {H0 H H1 : Hp} {b f w sd cl l : Addr} {m k : Nat} {rs : List Addr} {ess : List (List Ev)} {es : List Ev} {xs : List V} (t : FtAt H0 H b f w sd cl l m k rs ess es xs) (g : Gr [] H H1) : FtAt H0 H1 b f w sd cl l m k rs ess es xs :=
  { g := t.g.trans (g.mono (by simp)), bx := t.bx.keep g (by simp), wa := t.wa.keep g (by simp) (by simp) (by simp), fo := g.k0 t.fo, ev := t.ev.gr g, va := t.va, ok := t.ok, lo := t.lo.keep g (by simp) (by simp), jn := t.jn, fl := t.fl, fr := t.fr, rn := t.rn, bn := t.bn, fn := t.fn }
theorem FtAt.take {H0 H H1 : Hp} {b f w sd cl l : Addr} {m m' k : Nat} {rs : List Addr} {ess : List (List Ev)} {es : List Ev} {xs : List V} (t : FtAt H0 H b f w sd cl l m k rs ess es xs) (g : Gr [b] H H1) (hb : Bx H1 b m') : FtAt H0 H1 b f w sd cl l m' k rs ess es xs :=
  { g := t.g.trans g, bx := hb, wa := t.wa.keep g (by simpa using t.bn.2.1.symm) (by simpa using t.bn.2.2.1.symm) (by simpa using t.bn.2.2.2.symm), fo := g.k1 t.fo t.bn.1.symm, ev := t.ev.gr g, va := t.va, ok := t.ok, lo := t.lo.keep g (by simpa using t.fl.1) (fun r hr => by simpa using (t.fr r hr).1), jn := t.jn, fl := t.fl, fr := t.fr, rn := t.rn, bn := t.bn, fn := t.fn }
/-- w moved by an event that is put behind the others -/
theorem FtAt.step {H0 H H1 : Hp} {b f w sd cl l : Addr} {m k : Nat} {rs : List Addr} {ess : List (List Ev)} {es : List Ev} {xs : List V} {e : Ev} {v : V} (t : FtAt H0 H b f w sd cl l m k rs ess es xs) (nn : H0 f = none ∧ H0 w = none ∧ H0 sd = none ∧ H0 cl = none)
    (g : Gr [f, w, sd, cl] H H1) (he : IsEv H1 v e) (hf : (WS.nil.run es).fits e) (ho : e.ok) (hw : WAt H1 w sd cl ((WS.nil.run es).step e) (es.length + 1)) (hfo : H1 f = some (.lst (xs ++ [v]))) : FtAt H0 H1 b f w sd cl l m k rs ess (es ++ [e]) (xs ++ [v]) :=
  { g := t.g.sub (L := [f, w, sd, cl]) (g.mono fun a ha => List.mem_append_left _ ha) (by simp [nn.1, nn.2.1, nn.2.2.1, nn.2.2.2])
    bx := t.bx.keep g (by simp [t.bn.1, t.bn.2.1, t.bn.2.2.1, t.bn.2.2.2])
    wa := by rw [run_snoc, List.length_append]; exact hw
    fo := hfo
    ev := pr_append (t.ev.gr g) (.cons he .nil)
    va := valid_snoc t.va hf
    ok := fun x hx => (List.mem_append.mp hx).elim (t.ok x) fun z => by rw [List.mem_singleton] at z; rw [z]; exact ho
    lo := t.lo.keep g (by simp [t.fl.2.1, t.fl.2.2.1, t.fl.2.2.2.1, t.fl.2.2.2.2]) (fun r hr => by
      have z := t.fr r hr
      simp [z.2.1, z.2.2.1, z.2.2.2.1, z.2.2.2.2])
    jn := fun p p0 p1 => by rw [run_snoc]; exact step_some (t.jn p p0 p1)
    fl := t.fl, fr := t.fr, rn := t.rn, bn := t.bn, fn := t.fn }
/-- the lots changed -/
theorem FtAt.lots {H0 H : Hp} {b f w sd cl l l' : Addr} {m k : Nat} {rs rs' : List Addr} {ess ess' : List (List Ev)} {es : List Ev} {xs : List V} (t : FtAt H0 H b f w sd cl l m k rs ess es xs) (lo : LotsAt H l' rs' ess') (fl : l' ≠ b ∧ l' ≠ f ∧ l' ≠ w ∧ l' ≠ sd ∧ l' ≠ cl) (fr : ∀ r ∈ rs', r ∈ rs) : FtAt H0 H b f w sd cl l' m k rs' ess' es xs :=
  { t with lo := lo, fl := fl, fr := fun r hr => t.fr r (fr r hr), rn := fun r hr => t.rn r (fr r hr) }
theorem rows_set {H H' : Hp} {M : List Addr} (g : Gr M H H') {es' : List Ev} : ∀ {rs : List Addr} {ess : List (List Ev)} {j : Nat} {r : Addr}, Paired (RowAt H) rs ess → rs.Nodup → rs[j]? = some r → RowAt H' r es' → (∀ x ∈ rs, x ≠ r → x ∉ M) → Paired (RowAt H') rs (ess.set j es')
  | _, _, j, _, .nil, _, e, _, _ => by simp at e
  | x :: rs, _, 0, r, .cons h t, nd, e, hr, n => by
    have e : x = r := by simpa using e
    subst e
    exact .cons hr (rows_keep g t fun y hy => n y (by simp [hy]) fun z => (List.nodup_cons.mp nd).1 (z ▸ hy))
  | x :: rs, _, j + 1, r, .cons h t, nd, e, hr, n => by
    have e : rs[j]? = some r := by simpa using e
    have nx : x ≠ r := fun z => (List.nodup_cons.mp nd).1 (z ▸ List.mem_of_getElem? e)
    exact .cons (h.keep g (n x (by simp) nx)) (rows_set g t (List.nodup_cons.mp nd).2 e hr fun y hy => n y (by simp [hy]))
theorem total_set : ∀ {ess : List (List Ev)} {j : Nat} {e : Ev} {es' : List Ev}, ess[j]? = some (e :: es') → total (ess.set j es') + 1 = total ess
  | [], j, _, _, h => by simp at h
  | x :: ess, 0, e, es', h => by
    have h : x = e :: es' := by simpa using h
    subst h
    show (es'.length + (ess.map List.length).sum) + 1 = (es'.length + 1) + (ess.map List.length).sum
    omega
  | x :: ess, j + 1, e, es', h => by
    have ih := total_set (ess := ess) (j := j) (e := e) (es' := es') (by simpa using h)
    show (x.length + ((ess.set j es').map List.length).sum) + 1 = x.length + (ess.map List.length).sum
    unfold total at ih
    omega
def FitP (H : Hp) (b f w sd cl : Addr) (most far : Int) (m k mm : Nat) (σ : L2.St) (H' : Hp) : Prop :=
  ∃ l rs ess es xs y7 y8 y9, σ = [some (.ref b), some (.int most), some (.int (k : Int)), some (.int far), some (.ref l), some (.ref w), some (.ref f), y7, y8, y9, none, none] ∧
    FtAt H H' b f w sd cl l (m + 12 * mm) k rs ess es xs ∧ (∀ z ∈ ess, z ≠ []) ∧ total ess = mm ∧ es.length + mm * 5 ≤ 43
def spFit : Sp := fun vs H Q _ => ∃ (b : Addr) (m k : Nat) (most far : Int), vs = [.ref b, .int most, .int (k : Int), .int far] ∧
  Bx H b (m + 200) ∧ 2 ≤ most ∧ most ≤ 8 ∧ 1 ≤ k ∧ k ≤ 3 ∧
  ∀ (v : V) (H' : Hp) (es : List Ev), Gr [b] H H' → Bx H' b m → IsTT H' v es → Valid .nil es → (∀ e ∈ es, e.ok) → es.length ≤ 100 → Q v H'
theorem has_fit (D : Df K mg "_law_fit" s_law_fit ps_law_fit) (T : Txt mg) (G_law_take : Has P w K mg base 1 "_law_take" ps_law_take spTake) (G_law_moved : Has P w K mg base 1 "_law_moved" ps_law_moved spMoved) (G_law_lots : Has P w K mg base 2 "_law_lots" ps_law_lots spLots)
    (G_law_beside : Has P w K mg base 2 "_law_beside" ps_law_beside spBeside) (G_law_ended : Has P w K mg base 2 "_law_ended" ps_law_ended spEnded) :
    Has P w K mg base 3 "_law_fit" ps_law_fit spFit := Has.mk' D fun f fd F => by
  refine F.ok sc_law_fit (fun vs H Q E h => ?_) (fun cdv A outer s H vs Q E hr h => ?_)
  · obtain ⟨b, m, k, most, far, rfl, _⟩ := h
    rfl
  · obtain ⟨b, m, k, most, far, rfl, hb, m2, m8, k1, k3, q⟩ := h
    refine ⟨_, (pss_cons (ps_set (i := 4) sc_law_fit.nd rfl (Or.inl rfl) (pe_callH G_law_lots (hr.mono (by decide)) (by rfl) (pa_cons (pv 0) (pa_cons (pv 1) (pa_cons (pe_slice (sl_listK (K := K)) (pe_lst (pa_cons pe_str (pa_cons pe_str (pa_cons pe_str pa_nil)))) po_none (po_some (pe_op op_sub (pe_op op_fdiv (pv 1) pe_int) (pe_callTy call_int1 (by rfl) T.m_int (by decide +kernel) (pa_cons (pe_cmpR op_eq (pv 2) pe_int (nomark _)) pa_nil))))) pa_nil)))))
(pss_cons (ps_par (i := 5) (j := 6) (by rfl) sc_law_fit.nd rfl rfl (by decide) rfl rfl (pa_cons (pe_disp (pps_cons pe_str pe_dnewK (pps_cons pe_str (pe_lst pa_nil) (pps_cons pe_str pe_int pps_nil))) (by rfl) (by rfl) (fun z => by cases z) (by decide)) (pa_cons (pe_lc (own := [("_law_p", 10)]) (g := gName 10)  rfl sc_law_fit.nd (pi_range1 (by rfl) T.m_range (pa_cons (pv 2) pa_nil)) (blkOk_by (own := [("_law_p", 10)]) (N := N_law_fit) (sc := defScope s_law_fit) (by decide +kernel)) (fun _ _ _ _ _ => pg_name (i := 10) sc_law_fit.nd rfl (Or.inl rfl)) (fun _ _ _ _ _ => pts_nil) (fun _ _ _ _ _ => (pe_tup (pa_cons pe_str (pa_cons (pv 10) pa_nil))))) pa_nil)) (by rfl))
(pss_cons (ps_for PassesOwn.never rfl (pi_list (pv 6)) (pg_name (i := 7) sc_law_fit.nd rfl (Or.inl rfl))
  (pss_one (ps_expr (pe_callH G_law_moved (hr.mono (by decide)) (by rfl) (pa_cons (pv 5) (pa_cons (pv 7) pa_nil))))))
(pss_cons (ps_while PassesOwn.never (pt_cmpR (op_neDK (K := K) hr.units) (pv 4) (pe_lst pa_nil) (nomark _))
  (pss_cons (ps_set (i := 8) sc_law_fit.nd rfl (Or.inl rfl) (pe_ix (ix_listK (K := K)) (pv 4) (pe_callH G_law_take (hr.mono (by decide)) (by rfl) (pa_cons (pv 0) (pa_cons (pe_callB (call_len_seqK (K := K)) (by rfl) T.m_len (by decide +kernel) (pa_cons (pv 4) pa_nil)) pa_nil))) (fun _ _ => rfl)))
  (pss_cons (ps_expr (pe_bm PySem.F.plainAttrs_list PySem.F.slot_list_append PySem.F.type_list_append mt_append (pv 6) (pa_cons (pe_bm PySem.F.plainAttrs_list PySem.F.slot_list_pop PySem.F.type_list_pop mt_popAt (pv 8) (pa_cons pe_int pa_nil)) pa_nil)))
  (pss_cons (ps_expr (pe_callH G_law_moved (hr.mono (by decide)) (by rfl) (pa_cons (pv 5) (pa_cons (pe_ix (ix_listK (K := K)) (pv 6) (pe_un un_neg pe_int) (fun _ _ => rfl)) pa_nil))))
  (pss_cons (ps_setLc (i := 4) (own := [("_law_some", 11)]) (g := gName 11)  rfl sc_law_fit.nd rfl rfl (sw_true rfl rfl rfl (by decide +kernel)) (pi_list (pv 4)) (blkOk_by (own := [("_law_some", 11)]) (N := N_law_fit) (sc := defScope s_law_fit) (by decide +kernel)) (fun _ _ _ _ _ => pg_name (i := 11) sc_law_fit.nd rfl (Or.inl rfl)) (fun _ _ _ _ _ => pts_one (pt_cmpR (op_neDK (K := K) hr.units) (pv 11) (pe_lst pa_nil) (nomark _))) (fun _ _ _ _ _ => (pv 11)))
  (pss_cons (ps_set (i := 9) sc_law_fit.nd rfl (Or.inl rfl) (pe_callB (cr_sumK (K := K) rfl) (by rfl) T.m_sum (by decide +kernel) (pa_cons (pe_lc (own := [("_law_some", 11)]) (g := gName 11)  rfl sc_law_fit.nd (pi_list (pv 4)) (blkOk_by (own := [("_law_some", 11)]) (N := N_law_fit) (sc := defScope s_law_fit) (by decide +kernel)) (fun _ _ _ _ _ => pg_name (i := 11) sc_law_fit.nd rfl (Or.inl rfl)) (fun _ _ _ _ _ => pts_nil) (fun _ _ _ _ _ => (pe_callB (call_len_seqK (K := K)) (by rfl) T.m_len (by decide +kernel) (pa_cons (pv 11) pa_nil)))) pa_nil)))
  (pss_one (ps_for PassesOwn.never rfl (pi_list (pe_callH G_law_beside (hr.mono (by decide)) (by rfl) (pa_cons (pv 0) (pa_cons (pv 5) (pa_cons (pv 2) pa_nil))))) (pg_name (i := 7) sc_law_fit.nd rfl (Or.inl rfl))
    (pss_one (ps_if (pt_cmpR op_lt (pe_op op_add (pe_op op_add (pe_callB (call_len_seqK (K := K)) (by rfl) T.m_len (by decide +kernel) (pa_cons (pv 6) pa_nil)) (pv 9)) (pv 2)) (pv 3) (nomark _))
      (pss_cons (ps_expr (pe_callH G_law_moved (hr.mono (by decide)) (by rfl) (pa_cons (pv 5) (pa_cons (pv 7) pa_nil))))
      (pss_one (ps_expr (pe_bm PySem.F.plainAttrs_list PySem.F.slot_list_append PySem.F.type_list_append mt_append (pv 6) (pa_cons (pv 7) pa_nil)))))
      pss_nil))))))))))
(pss_one (ps_ret (pe_callH G_law_ended (hr.mono (by decide)) (by rfl) (pa_cons (pe_callTy (call_tuple_ofK (K := K)) (by rfl) T.m_tuple (by decide +kernel) (pa_cons (pv 6) pa_nil)) pa_nil)))))))), ?_⟩
    walk_at "w"
    refine ⟨WK.sz, fun c nc => ?_⟩
    walk_at "w"
    obtain ⟨bl, hbl⟩ := hb.lst
    refine ⟨c, _, rfl, SqL.of upd_same, fun nl nn => ?_⟩
    walk_at "w"
    have hcut : ∀ lo hi : Option Int, ∃ names : List Str, cutV [V.str "a", V.str "b", V.str "cc"] lo hi = names.map V.str ∧ names.length ≤ 3 ∧ ∀ x ∈ names, KeyOk x := fun lo hi => by
      refine ⟨((["a", "b", "cc"] : List Str).drop (HT.sIx 3 0 lo)).take (HT.sIx 3 3 hi - HT.sIx 3 0 lo), ?_, ?_, fun x hx => ?_⟩
      · rw [List.map_take, List.map_drop]
        rfl
      · rw [List.length_take, List.length_drop]
        show min _ (3 - _) ≤ 3
        omega
      · have h1 := List.mem_of_mem_drop (List.mem_of_mem_take hx)
        simp only [List.mem_cons, List.not_mem_nil, or_false] at h1
        rcases h1 with z | z | z <;> subst z
        · exact .inl rfl
        · exact .inr (.inl rfl)
        · exact .inr (.inr (.inl rfl))
    obtain ⟨names, en, nlen, hkeys⟩ := hcut none (some (most / 2 - if decide ((k : Int) = 3) = true then 1 else 0))
    have g1 : Gr [] H (upd H c (.lst [.str "a", .str "b", .str "cc"])) := Gr.new nc
    have g2 : Gr [] (upd H c (.lst [.str "a", .str "b", .str "cc"])) (upd (upd H c (.lst [.str "a", .str "b", .str "cc"])) nl (.lst (names.map V.str))) := Gr.new nn
    have hn2 : (upd (upd H c (.lst [.str "a", .str "b", .str "cc"])) nl (.lst (names.map V.str))) nl = some (.lst (names.map V.str)) := upd_same
    have nnb : nl ≠ b := (ne_of_none (g1.k0 hbl) nn).symm
    rw [en]
    have g02 := g1.trans g2
    have hb2 := hb.keep g02 (by simp)
    generalize (upd (upd H c (.lst [.str "a", .str "b", .str "cc"])) nl (.lst (names.map V.str))) = H2 at *
    refine ⟨b, nl, m + 180, most, names, rfl, hb2.mono (by omega), hn2, nnb, by omega, hkeys, by omega, fun l rs ess H3 g3 hb3 lo3 l0 r0 to3 ne3 => ?_⟩
    have g03 : Gr [b] H H3 := (g02.mono (by simp)).trans g3
    have nlb : l ≠ b := (ne_of_none (g02.k0 hbl) l0).symm
    have nrb : ∀ r ∈ rs, r ≠ b := fun r hr => (ne_of_none (g02.k0 hbl) (r0 r hr)).symm
    clear g1 g2 hn2
    walk_at "w"
    refine w_wdict fun wa sd cl H4 nw ns ncl g4 hw4 => ?_
    walk_at "w"
    have lo4 := lo3.keep g4 (by simp) (by simp)
    have rne : ∀ {a : Addr}, H3 a = none → a ≠ l ∧ ∀ r ∈ rs, r ≠ a := fun {a} h => ⟨(ne_of_none lo3.l h).symm, fun r hr e => by
      obtain ⟨es', _, xs', h1, _⟩ := mem_of_pr lo3.r hr
      rw [e, h] at h1
      cases h1⟩
    have hb4 := hb3.keep g4 (by simp)
    have g04 := g03.trans (g4.mono (by simp))
    have bne : ∀ {a : Addr}, H3 a = none → a ≠ b := fun {a} h e => by
      obtain ⟨_, z⟩ := hb3.lst
      rw [← e, h] at z
      cases z
    refine ⟨by omega, by omega, ?_⟩
    have kk : (k : Int).toNat = k := by omega
    rw [kk]
    refine lc_go (walk_range (lo := 0) (n := k)) (fun Dn i acc H' => Gr [] H4 H' ∧ Evs H' acc ((List.range i).map fun p => Ev.join (p : Nat)))
      (fun Dn nD => ⟨Gr.new nD, .nil⟩) (fun _ _ _ _ _ _ => trivial) ?_ ?_
    · rintro Dn i acc x H5 H6 nD hi hD la ⟨g5, he5⟩ ⟨rfl, rfl⟩
      walk_at "w"
      refine ⟨rfl, ?_⟩
      walk_at "w"
      refine WK.w_ifP rfl ?_
      walk_at "w"
      refine ⟨WK.sz, fun z nz => ?_⟩
      have gz : Gr [] H6 (upd H6 z (.tup [.str "join", .int (0 + (i : Int))])) := Gr.new nz
      have hDz := gz.k0 hD
      have gD : Gr [Dn] (upd H6 z (.tup [.str "join", .int (0 + (i : Int))])) _ := Gr.mutL (o := .lst (acc ++ [.ref z])) hDz (by simp)
      refine lc_yes hDz la (by omega) ⟨(g5.trans gz).own gD nD, ?_⟩
      rw [List.range_succ, List.map_append]
      exact pr_append ((he5.gr gz).gr gD) (.cons ⟨z, rfl, gD.tup _ _ (by rw [upd_same, Int.zero_add]; rfl)⟩ .nil)
    · rintro f acc H5 nf hf la ⟨g5, he5⟩
      have lo5 := lo4.keep g5 (by simp) (by simp)
      have hb5 := hb4.keep g5 (by simp)
      have g05 := g04.trans (g5.mono (by simp))
      have hw5 := hw4.keep g5 (by simp) (by simp) (by simp)
      have nf3 : H3 f = none := g4.live _ nf
      have fw : f ≠ wa := (ne_of_none hw4.w nf).symm
      have fs : f ≠ sd := by
        obtain ⟨kvs, ks, hs, _⟩ := hw4.s
        exact (ne_of_none hs nf).symm
      have fc : f ≠ cl := (ne_of_none hw4.c nf).symm
      generalize hjs : ((List.range k).map fun p => Ev.join (p : Nat)) = js at he5
      have jlen : js.length = k := by rw [← hjs]; simp
      have jok : ∀ e ∈ js, e.ok := fun e he => by
        rw [← hjs] at he
        obtain ⟨p, hp, rfl⟩ := List.mem_map.mp he
        have := List.mem_range.mp hp
        exact ⟨by omega, by omega⟩
      have jva : Valid .nil js := valid_triv fun e he s => by
        rw [← hjs] at he
        obtain ⟨p, hp, rfl⟩ := List.mem_map.mp he
        trivial
      have jjn : ∀ p : Int, 0 ≤ p → p < k → ((WS.nil.run js).seats p).isSome = true := fun p p0 p1 => run_join (by
        rw [← hjs]
        exact List.mem_map.mpr ⟨p.toNat, List.mem_range.mpr (by omega), by rw [Int.toNat_of_nonneg p0]⟩)
      walk_at "w"
      refine ⟨⟨_, SqL.of hf⟩, lp_list (xs := acc) (fun i σ' H' => ∃ y7, σ' = [some (.ref b), some (.int most), some (.int (k : Int)), some (.int far), some (.ref l), some (.ref wa), some (.ref f), y7, none, none, none, none] ∧ Gr [wa, sd, cl] H5 H' ∧ WAt H' wa sd cl (WS.nil.run (js.take i)) i)
        ⟨none, rfl, Gr.refl _ _, hw5⟩ (fun i σ' H' _ ⟨_, _, g, _⟩ => SqL.of (g.keep _ _ (by simp [fw, fs, fc]) hf)) ?_ ?_⟩
      · rintro i x _ H6 hx ⟨y7, rfl, g6, hw6⟩
        obtain ⟨e, he, hxe⟩ := pr_get he5 hx
        have hi : i < js.length := (List.getElem?_eq_some_iff.mp he).1
        walk_at "w"
        refine use_moved hw6 (by omega) (hxe.gr g6) (valid_take jva i he) fun H7 g7 hw7 => ?_
        refine ⟨_, rfl, g6.trans g7, ?_⟩
        rw [take_snoc he, run_snoc]
        exact hw7
      · rintro _ H6 ⟨y7, rfl, g6, hw6⟩
        have al : acc.length = js.length := he5.length
        rw [al, List.take_length] at hw6
        obtain ⟨l1, l2⟩ := rne nw
        obtain ⟨l3, l4⟩ := rne ns
        obtain ⟨l5, l6⟩ := rne ncl
        obtain ⟨l7, l8⟩ := rne nf3
        have t6 : FtAt H H6 b f wa sd cl l (m + 180) k rs ess js acc :=
          { g := g05.sub (L := [wa, sd, cl]) (g6.mono fun a ha => List.mem_append_left _ ha) (by simp [g03.live _ nw, g03.live _ ns, g03.live _ ncl])
            bx := hb5.keep g6 (by simp [(bne nw).symm, (bne ns).symm, (bne ncl).symm])
            wa := hw6
            fo := g6.keep _ _ (by simp [fw, fs, fc]) hf
            ev := he5.gr g6
            va := jva
            ok := jok
            lo := lo5.keep g6 (by simp [l1.symm, l3.symm, l5.symm]) (fun r hr => by simp [l2 r hr, l4 r hr, l6 r hr])
            jn := jjn
            fl := ⟨nlb, l7.symm, l1.symm, l3.symm, l5.symm⟩
            fr := fun r hr => ⟨nrb r hr, l8 r hr, l2 r hr, l4 r hr, l6 r hr⟩
            rn := fun r hr => g02.live _ (r0 r hr)
            bn := ⟨(bne nf3).symm, (bne nw).symm, (bne ns).symm, (bne ncl).symm⟩
            fn := ⟨fw, fs, fc⟩ }
        have nn : H f = none ∧ H wa = none ∧ H sd = none ∧ H cl = none := ⟨g03.live _ nf3, g03.live _ nw, g03.live _ ns, g03.live _ ncl⟩
        walk_at "w"
        have tot : total ess ≤ 8 := by omega
        clear hw6 g6 hb5 hw5 lo5 g05 g04 hb4 lo4 hw4 g4 g5 he5 jjn hcut hb2 lo3 hb3 g03 g3 rne bne nw ns ncl nf nf3 hf r0 l0 nnb l2 l4 l6 l8
        refine ⟨FitP H b f wa sd cl most far m k, ⟨total ess, l, rs, ess, js, acc, _, _, _, rfl, { t6 with bx := t6.bx.mono (by omega) }, ne3, rfl, by omega⟩, ?_⟩
        clear t6 ne3 to3 l1 l3 l5 l7 nlb nrb
        rintro mm _ H7 ⟨l, rs, ess, es, xs, y7, y8, y9, rfl, t, ne, hm, hlen⟩
        walk_at "w"
        refine ⟨WK.sz, fun z nz => ?_⟩
        have gz : Gr [] H7 (upd H7 z (.lst [])) := Gr.new nz
        have hz : (upd H7 z (.lst [])) z = some (.lst []) := upd_same
        have t8 := t.gr gz
        clear t
        generalize (upd H7 z (.lst [])) = H8 at *
        refine w_neNil (n := 2) (SqL.of t8.lo.l) (lots_dp t8.lo.r t8.lo.en) (lots_sh t8.lo.en) (by decide) hz ?_
        walk_at "w"
        refine ite2 (fun h5 => ?_) (fun h5 => ?_)
        · have rsl : rs.length = ess.length := t8.lo.r.length
          have hc : 0 < rs.length := by
            rw [rsl]
            cases e : ess with
            | nil => rw [e] at h5; simp at h5
            | cons x y => simp
          refine ⟨fun σ' H' => ∃ m', m' < mm ∧ FitP H b f wa sd cl most far m k m' σ' H', fun _ _ z => z, ?_⟩
          have rt : ∀ {ess : List (List Ev)}, (∀ z ∈ ess, z ≠ []) → ess.length ≤ total ess := fun {ess} h => by
            induction ess with
            | nil => exact Nat.le_refl _
            | cons x y ih =>
              have h1 : 0 < x.length := List.length_pos_iff.mpr (h x (by simp))
              have h2 := ih fun z hz => h z (by simp [hz])
              show y.length + 1 ≤ x.length + (y.map List.length).sum
              unfold total at h2
              omega
          have rl := rt ne
          have hl8 := t8.lo.l
          walk_at "w"
          refine use_take (n := m + 12 * mm - 1) (t8.bx.mono (by omega)) (by rw [List.length_map]; omega) (by rw [List.length_map]; omega) (fun r H9 r0 r1 g9 hb9 => ?_)
          rw [List.length_map] at r1
          have t9 := t8.take g9 hb9
          have er : rs[r.toNat]? = some rs[r.toNat] := List.getElem?_eq_getElem (by omega)
          generalize rs[r.toNat] = rr at er
          have rrm : rr ∈ rs := List.mem_of_getElem? er
          obtain ⟨es1, he1, ys, hr9, hy9⟩ := pr_get t9.lo.r er
          obtain ⟨e, es', ees⟩ : ∃ e es', es1 = e :: es' := by
            cases hh : es1 with
            | nil => exact absurd hh (ne es1 (List.mem_of_getElem? he1))
            | cons x y => exact ⟨x, y, rfl⟩
          subst ees
          obtain ⟨v, ys', eys, hv, hy9'⟩ : ∃ v ys', ys = v :: ys' ∧ IsEv H9 v e ∧ Evs H9 ys' es' := by
            cases hy9 with
            | cons h t => exact ⟨_, _, rfl, h, t⟩
          subst eys
          refine ⟨l, _, r, .ref rr, rfl, rfl, SqL.of t9.lo.l, WK.at_ofG (j := r.toNat) (by omega) (by rw [List.getElem?_map, er]; rfl), ?_⟩
          walk_at "w"
          refine ⟨.inl ⟨rfl, xs, SqL.of t9.fo⟩, ?_⟩
          walk_at "w"
          refine ⟨.inl ⟨rfl, _, SqL.of hr9⟩, ?_⟩
          walk_at "w"
          refine ⟨rr, v :: ys', 0, 0, v, rfl, rfl, hr9, by omega, by omega, by simp [seqIndex?], rfl, ?_⟩
          obtain ⟨r1b, r1f, r1w, r1s, r1c⟩ := t9.fr rr rrm
          have gA : Gr [rr] H9 (upd H9 rr (.lst ((v :: ys').eraseIdx 0))) := Gr.mutL hr9 (by simp)
          have hrA : (upd H9 rr (.lst ((v :: ys').eraseIdx 0))) rr = some (.lst ys') := upd_same
          have xl := t9.ev.length
          have hfA := gA.keep _ _ (by simpa using r1f.symm) t9.fo
          generalize (upd H9 rr (.lst ((v :: ys').eraseIdx 0))) = HA at *
          refine ⟨f, xs, v, rfl, rfl, hfA, WK.sz' (by omega), ?_⟩
          have hent : ∀ x ∈ e :: es', x.ent := t9.lo.en _ (List.mem_of_getElem? he1)
          have lo9 := t9.lo
          have lrr : l ≠ rr := fun z => lo9.nl (z ▸ rrm)
          have loA : LotsAt HA l rs (ess.set r.toNat es') := by
            refine ⟨lo9.nd, rows_set gA lo9.r lo9.nd er ⟨ys', hrA, hy9'.gr gA⟩ (fun x hx nx => by simpa using nx), lo9.nl, fun z hz => ?_, gA.keep _ _ (by simpa using lrr) lo9.l⟩
            rcases List.mem_or_eq_of_mem_set hz with h | h
            · exact lo9.en z h
            · subst h
              exact fun x hx => hent x (by simp [hx])
          have tA : FtAt H HA b f wa sd cl l (m + 12 * mm - 1) k rs (ess.set r.toNat es') es xs :=
            { g := t9.g.own (gA.mono (by simp)) (t9.rn rr rrm), bx := t9.bx.keep gA (by simpa using r1b.symm), wa := t9.wa.keep gA (by simpa using r1w.symm) (by simpa using r1s.symm) (by simpa using r1c.symm), fo := hfA, ev := t9.ev.gr gA
              va := t9.va, ok := t9.ok, lo := loA, jn := t9.jn, fl := t9.fl, fr := t9.fr, rn := t9.rn, bn := t9.bn, fn := t9.fn }
          have hvA := hv.gr gA
          have tse := total_set he1
          clear t9 t8 loA lo9 hv hy9 hy9' hr9 gA g9 hb9 hl8 hz h5
          generalize hess1 : ess.set r.toNat es' = ess1 at tA tse
          have gB : Gr [f] HA (upd HA f (.lst (xs ++ [v]))) := Gr.mutL hfA (by simp)
          have hfB : (upd HA f (.lst (xs ++ [v]))) f = some (.lst (xs ++ [v])) := upd_same
          have waB := tA.wa.keep gB (by simpa using tA.fn.1.symm) (by simpa using tA.fn.2.1.symm) (by simpa using tA.fn.2.2.symm)
          have hvB := hvA.gr gB
          generalize (upd HA f (.lst (xs ++ [v]))) = HB at *
          walk_at "w"
          refine ⟨f, _, -1, v, rfl, rfl, SqL.of hfB, atI_last _ _, ?_⟩
          walk_at "w"
          refine use_moved waB (by omega) hvB (Ev.ent_fits (hent e (by simp))) fun HC gC hwC => ?_
          have tC := tA.step nn ((gB.mono (by simp)).trans (gC.mono (by simp))) (hvB.gr gC) (Ev.ent_fits (hent e (by simp))) (Ev.ent_ok (hent e (by simp))) hwC (gC.keep _ _ (by simp [tA.fn.1, tA.fn.2.1, tA.fn.2.2]) hfB)
          clear tA gB hfB waB hvB hvA gC hwC hfA hrA
          have esl1 : ess1.length = ess.length := by rw [← hess1, List.length_set]
          generalize hes3 : es ++ [e] = esC at tC
          generalize hxs3 : xs ++ [v] = xsC at tC
          have esCl : esC.length = es.length + 1 := by rw [← hes3, List.length_append]; rfl
          walk_at "w"
          refine ⟨⟨_, SqL.of tC.lo.l⟩, ?_⟩
          refine lc_go (walk_list (K := K) (a := l) (xs := rs.map V.ref)) (fun Dn j acc H' => Gr [] HC H' ∧ ∃ (rs2 : List Addr) (ess2 : List (List Ev)), acc = rs2.map V.ref ∧ rs2.Sublist (rs.take j) ∧ Paired (RowAt HC) rs2 ess2 ∧ total ess2 = total (ess1.take j) ∧ (∀ z ∈ ess2, z ≠ []) ∧ ∀ z ∈ ess2, ∀ e ∈ z, e.ent)
            (fun Dn nD => ⟨Gr.new nD, [], [], rfl, by simp, .nil, rfl, by simp, by simp⟩) (fun Dn j acc H' _ ⟨g, _⟩ => SqL.of (g.k0 tC.lo.l)) ?_ ?_
          · rintro Dn j acc x H5 H6 nD hj hD la ⟨g5, rs2, ess2, rfl, q1, q2, q3, q4, q5⟩ ⟨rfl, hx⟩
            rw [List.length_map] at hj
            have erj : rs[j]? = some rs[j] := List.getElem?_eq_getElem hj
            have ex : x = V.ref rs[j] := by
              rw [List.getElem?_map, erj] at hx
              exact (Option.some.inj hx).symm
            subst ex
            obtain ⟨esj, hej, xsj, hrj, hvj⟩ := pr_get tC.lo.r erj
            have entj := tC.lo.en _ (List.mem_of_getElem? hej)
            walk_at "w"
            refine ⟨rfl, ?_⟩
            walk_at "w"
            refine ⟨WK.sz, fun z nz => ?_⟩
            have gz : Gr [] H6 (upd H6 z (.lst [])) := Gr.new nz
            have g6 := g5.trans gz
            have hDz := gz.k0 hD
            refine w_neNil (n := 1) (SqL.of (g6.k0 hrj)) (evs_dp (hvj.gr g6) fun e q => Ev.ent_kok (entj e q)) (evs_sh (n := 0) fun e q => Ev.ent_kok (entj e q)) (by decide) upd_same ?_
            generalize (upd H6 z (.lst [])) = H7 at *
            walk_at "w"
            have hts : ess1.take (j + 1) = ess1.take j ++ [esj] := take_snoc hej
            refine ite2 (fun h6 => ?_) (fun h6 => ?_)
            · walk_at "w"
              have gD : Gr [Dn] H7 (upd H7 Dn (.lst (rs2.map V.ref ++ [.ref rs[j]]))) := Gr.mutL hDz (by simp)
              refine lc_yes hDz la (by omega) ⟨g6.own gD nD, rs2 ++ [rs[j]], ess2 ++ [esj], by rw [List.map_append]; rfl, ?_, pr_append q2 (.cons ⟨xsj, hrj, hvj⟩ .nil), ?_, ?_, ?_⟩
              · rw [take_snoc erj]
                exact q1.append (List.Sublist.refl _)
              · rw [hts, total_append, total_append, q3]
              · intro y hy
                rcases List.mem_append.mp hy with z' | z'
                · exact q4 y z'
                · rw [List.mem_singleton] at z'
                  subst z'
                  intro e0
                  rw [e0] at h6
                  simp at h6
              · intro y hy
                rcases List.mem_append.mp hy with z' | z'
                · exact q5 y z'
                · rw [List.mem_singleton] at z'
                  subst z'
                  exact entj
            · have e0 : esj = [] := by
                cases hh : esj with
                | nil => rfl
                | cons a c => rw [hh] at h6; simp at h6
              refine lc_no hDz la ⟨g6, rs2, ess2, rfl, ?_, q2, ?_, q4, q5⟩
              · rw [take_snoc erj]
                exact q1.trans (List.sublist_append_left _ _)
              · rw [hts, total_append, e0, q3]
                rfl
          · rintro Dn acc HD nD hD la ⟨gD, rs2, ess2, rfl, q1, q2, q3, q4, q5⟩
            have rl2 : (rs.map V.ref).length = ess1.length := by rw [List.length_map, rsl, esl1]
            rw [rl2, List.take_length] at q3
            have rll : rs.take (rs.map V.ref).length = rs := by rw [List.length_map, List.take_length]
            rw [rll] at q1
            have nDr : Dn ∉ rs2 := fun h => by
              obtain ⟨_, _, _, h1, _⟩ := mem_of_pr q2 h
              rw [nD] at h1
              cases h1
            have ndb : Dn ≠ b := fun h => by
              obtain ⟨_, z⟩ := tC.bx.lst
              rw [← h, nD] at z
              cases z
            have tD := (tC.gr gD).lots (l' := Dn) (rs' := rs2) (ess' := ess2) ⟨q1.nodup tC.lo.nd, rows_keep gD q2 (by simp), nDr, q5, hD⟩
              ⟨ndb, (ne_of_none tC.fo nD).symm, (ne_of_none tC.wa.w nD).symm, (by
                obtain ⟨_, _, hs, _⟩ := tC.wa.s
                exact (ne_of_none hs nD).symm), (ne_of_none tC.wa.c nD).symm⟩ (fun r hr => q1.subset hr)
            clear tC gD q1 nDr ndb nD hD
            have rl3 : rs2.length = ess2.length := q2.length
            have rt2 := rt q4
            walk_at "w"
            refine ⟨⟨_, SqL.of tD.lo.l⟩, ?_⟩
            refine lc_go (walk_list (K := K) (a := Dn) (xs := rs2.map V.ref)) (fun Cn j acc H' => Gr [] HD H' ∧ acc = (ess2.take j).map fun es => V.int ((es.length : Nat) : Int))
              (fun Cn nC => ⟨Gr.new nC, rfl⟩) (fun Cn j acc H' _ ⟨g, _⟩ => SqL.of (g.k0 tD.lo.l)) ?_ ?_
            · rintro Cn j ac x H6 H7 nC hj hC lc ⟨g6, rfl⟩ ⟨rfl, hx⟩
              rw [List.length_map] at hj
              have er : rs2[j]? = some rs2[j] := List.getElem?_eq_getElem hj
              have ex : x = V.ref rs2[j] := by
                rw [List.getElem?_map, er] at hx
                exact (Option.some.inj hx).symm
              subst ex
              obtain ⟨es1, he1, xs1, hr1, hv1⟩ := pr_get tD.lo.r er
              walk_at "w"
              refine ⟨rfl, ?_⟩
              walk_at "w"
              refine WK.w_ifP rfl ?_
              walk_at "w"
              refine w_len (g6.k0 hr1) ?_
              have gD : Gr [Cn] H7 (upd H7 Cn (.lst (((ess2.take j).map fun es => V.int ((es.length : Nat) : Int)) ++ [.int (xs1.length : Nat)]))) := Gr.mutL hC (by simp)
              refine lc_yes hC lc (by omega) ⟨g6.own gD nC, ?_⟩
              rw [take_snoc he1, List.map_append, hv1.length]
              rfl
            · rintro Cn ac HE nC hC lc ⟨gE, rfl⟩
              rw [List.length_map, rl3, List.take_length] at hC
              walk_at "w"
              refine ⟨Cn, ess2.map fun es => ((es.length : Nat) : Int), rfl, SqL.of (by rw [hC, List.map_map]; rfl), ?_⟩
              rw [sum_ints]
              have tE := tD.gr gE
              clear tD gE hC nC
              have gd := Gd.run (es := esC) Gd.nil tE.ok
              walk_at "w"
              refine ⟨b, wa, sd, cl, WS.nil.run esC, 0 + esC.length, m + 12 * (mm - 1), k, rfl, tE.bx.mono (by omega), tE.wa.mono (by omega), by omega, tE.bn.2.2.2, k1, by omega, gd, tE.jn, fun fl xs2 es2 HF tb nfl => ?_⟩
              have tF := tE.take tb.g tb.bx
              have esf : es2.length ≤ k + 1 := tb.len
              have flf : fl ∉ [f, wa, sd, cl] := by
                have z1 := (ne_of_none tE.fo nfl).symm
                have z2 := (ne_of_none tE.wa.w nfl).symm
                have z3 : fl ≠ sd := by
                  obtain ⟨_, _, hs, _⟩ := tE.wa.s
                  exact (ne_of_none hs nfl).symm
                have z4 := (ne_of_none tE.wa.c nfl).symm
                simp [z1, z2, z3, z4]
              clear tE gd
              refine ⟨fl, rfl, ⟨_, SqL.of tb.l⟩, lp_list (xs := xs2) (fun j σ' H' => ∃ y7 es3 xs3, σ' = [some (.ref b), some (.int most), some (.int (k : Int)), some (.int far), some (.ref Dn), some (.ref wa), some (.ref f), y7, some (.ref rr), some (.int ((total ess2 : Nat) : Int)), none, none] ∧
                  FtAt H H' b f wa sd cl Dn (m + 12 * (mm - 1)) k rs2 ess2 es3 xs3 ∧ Gr [f, wa, sd, cl] HF H' ∧ es3.length ≤ esC.length + j ∧ (es3 = esC ++ es2.take j ∨ ¬ ((xs3.length : Nat) : Int) + ((total ess2 : Nat) : Int) + (k : Int) < far))
                ⟨_, esC, xsC, rfl, tF, Gr.refl _ _, Nat.le_refl _, .inl (by simp)⟩ (fun j σ' H' _ ⟨_, _, _, _, _, g, _⟩ => SqL.of (g.keep _ _ flf tb.l)) ?_ ?_⟩
              · rintro j x _ H7 hx ⟨y7, es3, xs3, rfl, t7, g7, l7, alt⟩
                obtain ⟨e2, he2, hxe⟩ := pr_get tb.ev hx
                have hj : j < es2.length := (List.getElem?_eq_some_iff.mp he2).1
                have hf7 := t7.fo
                have xl7 := t7.ev.length
                walk_at "w"
                walk_at "i"
                refine WK.w_2 (fun h7 => ?_) (fun h7 => ?_)
                · have alt := alt.resolve_right (fun z => z h7)
                  subst alt
                  have hfit : (WS.nil.run (esC ++ es2.take j)).fits e2 := by
                    rw [run_append]
                    exact valid_take tb.va j he2
                  walk_at "w"
                  refine use_moved t7.wa (by omega) (hxe.gr g7) hfit fun H8 g8 hw8 => ?_
                  have hf8 := g8.keep _ _ (by simp [t7.fn.1, t7.fn.2.1, t7.fn.2.2]) hf7
                  walk_at "w"
                  refine ⟨.inl ⟨rfl, _, SqL.of hf8⟩, ?_⟩
                  walk_at "w"
                  refine ⟨f, xs3, x, rfl, rfl, hf8, WK.sz' (by omega), ?_⟩
                  have g9 : Gr [f] H8 (upd H8 f (.lst (xs3 ++ [x]))) := Gr.mutL hf8 (by simp)
                  have g79 := (g8.mono (M' := [f, wa, sd, cl]) (by simp)).trans (g9.mono (by simp))
                  have t9 := t7.step nn g79 ((hxe.gr g7).gr g79) hfit (tb.ok e2 (List.mem_of_getElem? he2)) (hw8.keep g9 (by simpa using t7.fn.1.symm) (by simpa using t7.fn.2.1.symm) (by simpa using t7.fn.2.2.symm)) upd_same
                  refine ⟨_, _, _, rfl, t9, g7.trans g79, by rw [List.length_append (as := esC ++ es2.take j), List.length_singleton]; omega, .inl ?_⟩
                  rw [take_snoc he2, List.append_assoc]
                · walk_at "w"
                  exact ⟨_, es3, xs3, rfl, t7, g7, by omega, .inr h7⟩
              · rintro _ H7 ⟨y7, es3, xs3, rfl, t7, g7, l7, alt⟩
                have xl2 : xs2.length = es2.length := tb.ev.length
                exact ⟨mm - 1, by omega, Dn, rs2, ess2, es3, xs3, _, _, _, rfl, t7, q4, by omega, by omega⟩
        · walk_at "w"
          refine ⟨f, xs, rfl, .inl ⟨SqL.of t8.fo, fun y ny => ?_⟩⟩
          have gy : Gr [] H8 (upd H8 y (.tup xs)) := Gr.new ny
          refine use_ended (E := E0) ⟨y, xs, rfl, upd_same, t8.ev.gr gy⟩ t8.va t8.ok (by omega) fun v' H9 es9 g9 tt9 va9 ok9 l9 => ?_
          have g89 := gy.trans g9
          exact q _ _ es9 (t8.g.trans (g89.mono (by simp))) ((t8.bx.keep g89 (by simp)).mono (by omega)) tt9 va9 ok9 (by omega)

end
end PK
namespace PK
open PySem L2
section
variable {P : Program} {w : World} {K : PySem.W.Frag} {mg : Str → Option Value} {base : Heap}
abbrev s_law_drawn : Stmt := topS 21
abbrev N_law_drawn : List Str := ["_law_box_here", "_law_most", "_law_names", "_law_words", "_law_found"]
abbrev ps_law_drawn : List Str := ["_law_box_here", "_law_most"]
theorem sc_law_drawn : FnScope N_law_drawn ps_law_drawn (defScope s_law_drawn) := ⟨rfl, rfl, rfl, by decide +kernel, rfl, by decide +kernel, by decide +kernel⟩
def spDrawn : Sp := fun vs H Q _ => ∃ (b : Addr) (m : Nat) (most : Int), vs = [.ref b, .int most] ∧ Bx H b (m + 220) ∧ 2 ≤ most ∧ most ≤ 8 ∧
  ∀ (v : V) (H' : Hp) (es : List Ev), Gr [b] H H' → Bx H' b m → IsTT H' v es → Valid .nil es → (∀ e ∈ es, e.ok) → es.length ≤ 100 → Q v H'
theorem has_drawn (D : Df K mg "_law_drawn" s_law_drawn ps_law_drawn) (T : Txt mg) (G_law_take : Has P w K mg base 1 "_law_take" ps_law_take spTake) (G_law_of : Has P w K mg base 2 "_law_of" ps_law_of spOf) (G_law_fit : Has P w K mg base 3 "_law_fit" ps_law_fit spFit)
    (G_law_table : Has P w K mg base 4 "_law_table" ps_law_table spTable) (G_law_ended : Has P w K mg base 2 "_law_ended" ps_law_ended spEnded) : Has P w K mg base 5 "_law_drawn" ps_law_drawn spDrawn := Has.mk' D fun f fd F => by
  refine F.ok sc_law_drawn (fun vs H Q E h => ?_) (fun cdv A outer s H vs Q E hr h => ?_)
  · obtain ⟨b, m, most, rfl, _⟩ := h
    rfl
  · obtain ⟨b, m, most, rfl, hb, m2, m8, q⟩ := h
    refine ⟨_, (pss_cons (ps_if (pt_cmpR op_eq (pe_callH G_law_take (hr.mono (by decide)) (by rfl) (pa_cons (pv 0) (pa_cons pe_int pa_nil))) pe_int (nomark _))
  (pss_one (ps_ret (pe_callH G_law_fit (hr.mono (by decide)) (by rfl) (pa_cons (pv 0) (pa_cons (pv 1) (pa_cons (pe_op op_add pe_int (pe_callH G_law_take (hr.mono (by decide)) (by rfl) (pa_cons (pv 0) (pa_cons pe_int pa_nil)))) (pa_cons pe_int pa_nil)))))))
  pss_nil)
(pss_cons (ps_set (i := 2) sc_law_drawn.nd rfl (Or.inl rfl) (pe_slice (sl_listK (K := K)) (pe_lst (pa_cons pe_str (pa_cons pe_str (pa_cons pe_str (pa_cons pe_str pa_nil))))) po_none (po_some (pe_op op_add pe_int (pe_callH G_law_take (hr.mono (by decide)) (by rfl) (pa_cons (pv 0) (pa_cons pe_int pa_nil)))))))
(pss_cons (ps_set (i := 3) sc_law_drawn.nd rfl (Or.inl rfl) (pe_callH G_law_of (hr.mono (by decide)) (by rfl) (pa_cons (pv 0) (pa_cons (pe_lst (pa_cons pe_str (pa_cons pe_str (pa_cons pe_str pa_nil)))) pa_nil))))
(pss_cons (ps_set (i := 4) sc_law_drawn.nd rfl (Or.inl rfl) (pe_callH G_law_table (hr.mono (by decide)) (by rfl) (pa_cons (pv 0) (pa_cons (pe_op op_add pe_int (pe_callH G_law_take (hr.mono (by decide)) (by rfl) (pa_cons (pv 0) (pa_cons pe_int pa_nil)))) (pa_cons (pv 1) (pa_cons (pe_op op_add pe_int (pe_callH G_law_take (hr.mono (by decide)) (by rfl) (pa_cons (pv 0) (pa_cons pe_int pa_nil)))) (pa_cons (pv 2) (pa_cons (pv 3) pa_nil))))))))
(pss_one (ps_ret (pe_ifExp (pt_cmpR op_gt (pe_callH G_law_take (hr.mono (by decide)) (by rfl) (pa_cons (pv 0) (pa_cons pe_int pa_nil))) pe_int (nomark _)) (pe_callH G_law_ended (hr.mono (by decide)) (by rfl) (pa_cons (pv 4) pa_nil)) (pv 4)))))))), ?_⟩
    walk_at "w"
    walk_at "i"
    refine use_take (n := m + 219) hb (by omega) (by omega) (fun r1 H1 r10 r11 g1 hb1 => ?_)
    walk_at "w"
    refine WK.w_2 (fun h1 => ?_) (fun h1 => ?_)
    · walk_at "w"
      refine use_take (n := m + 218) hb1 (by omega) (by omega) (fun r2 H2 r20 r21 g2 hb2 => ?_)
      walk_at "w"
      refine ⟨b, m, (1 + r2).toNat, most, 15, ?_, hb2.mono (by omega), m2, m8, by omega, by omega, fun v H3 es g3 hb3 tt va ok ln => q v H3 es ((g1.trans g2).trans g3) hb3 tt va ok ln⟩
      rw [Int.toNat_of_nonneg (by omega)]
      rfl
    · walk_at "w"
      refine ⟨WK.sz, fun c nc => ?_⟩
      walk_at "w"
      have g2 : Gr [] H1 (upd H1 c (.lst [.str "a", .str "b", .str "cc", .str "abc"])) := Gr.new nc
      have hc2 : (upd H1 c (.lst [.str "a", .str "b", .str "cc", .str "abc"])) c = some (.lst [.str "a", .str "b", .str "cc", .str "abc"]) := upd_same
      have ncb : c ≠ b := fun e => by
        obtain ⟨_, z⟩ := hb1.lst
        rw [← e, nc] at z
        cases z
      have hb2 := hb1.keep g2 (by simp)
      have g02 := g1.trans (g2.mono (by simp))
      generalize (upd H1 c (.lst [.str "a", .str "b", .str "cc", .str "abc"])) = H2 at *
      refine use_take (n := m + 218) hb2 (by omega) (by omega) (fun r3 H3 r30 r31 g3 hb3 => ?_)
      have hc3 := g3.k1 hc2 ncb
      walk_at "w"
      refine ⟨c, _, rfl, SqL.of hc3, fun nl nn => ?_⟩
      obtain ⟨names, en, n0, n4, hkeys⟩ : ∃ names : List Str, cutV [V.str "a", V.str "b", V.str "cc", V.str "abc"] none (some (2 + r3)) = names.map V.str ∧ names ≠ [] ∧ names.length ≤ 4 ∧ ∀ x ∈ names, KeyOk x := by
        have ka : KeyOk "a" := .inl rfl
        have kb : KeyOk "b" := .inr (.inl rfl)
        have kc : KeyOk "cc" := .inr (.inr (.inl rfl))
        have kd : KeyOk "abc" := .inr (.inr (.inr rfl))
        have e : r3 = 0 ∨ r3 = 1 ∨ r3 = 2 := by omega
        rcases e with e | e | e <;> subst e
        · exact ⟨["a", "b"], rfl, by simp, by simp, by simp [ka, kb]⟩
        · exact ⟨["a", "b", "cc"], rfl, by simp, by simp, by simp [ka, kb, kc]⟩
        · exact ⟨["a", "b", "cc", "abc"], rfl, by simp, by simp, by simp [ka, kb, kc, kd]⟩
      rw [en]
      have g4 : Gr [] H3 (upd H3 nl (.lst (names.map V.str))) := Gr.new nn
      have hn4 : (upd H3 nl (.lst (names.map V.str))) nl = some (.lst (names.map V.str)) := upd_same
      have nnb : nl ≠ b := fun e => by
        obtain ⟨_, z⟩ := hb3.lst
        rw [← e, nn] at z
        cases z
      have hb4 := hb3.keep g4 (by simp)
      have g04 := (g02.trans g3).trans (g4.mono (by simp))
      generalize (upd H3 nl (.lst (names.map V.str))) = H4 at *
      walk_at "w"
      refine ⟨WK.sz, fun d ndd => ?_⟩
      walk_at "w"
      have g5 : Gr [] H4 (upd H4 d (.lst [.str "ppdddrrrsl", .str "pdddrrrwwj", .str "ppddrrrrrsllw"])) := Gr.new ndd
      have hd5 : (upd H4 d (.lst [.str "ppdddrrrsl", .str "pdddrrrwwj", .str "ppddrrrrrsllw"])) d = some (.lst [.str "ppdddrrrsl", .str "pdddrrrwwj", .str "ppddrrrrrsllw"]) := upd_same
      have ndb : d ≠ b := fun e => by
        obtain ⟨_, z⟩ := hb4.lst
        rw [← e, ndd] at z
        cases z
      have hb5 := hb4.keep g5 (by simp)
      have hn5 := g5.k0 hn4
      have g05 := g04.trans (g5.mono (by simp))
      generalize (upd H4 d (.lst [.str "ppdddrrrsl", .str "pdddrrrwwj", .str "ppddrrrrrsllw"])) = H5 at *
      refine use_of (n := m + 217) hb5 hd5 ndb (by simp) (by simp) (fun j x H6 hx g6 hb6 => ?_)
      obtain ⟨words, rfl, w0, w1⟩ : ∃ words : Str, x = .str words ∧ 0 < words.length ∧ words.length ≤ 100 := by
        match j, hx with
        | 0, h => exact ⟨_, (Option.some.inj h).symm, by decide +kernel, by decide +kernel⟩
        | 1, h => exact ⟨_, (Option.some.inj h).symm, by decide +kernel, by decide +kernel⟩
        | 2, h => exact ⟨_, (Option.some.inj h).symm, by decide +kernel, by decide +kernel⟩
        | n + 3, h => simp at h
      have hn6 := g6.k1 hn5 nnb
      walk_at "w"
      refine use_take (n := m + 216) hb6 (by omega) (by omega) (fun r7 H7 r70 r71 g7 hb7 => ?_)
      walk_at "w"
      refine use_take (n := m + 215) hb7 (by omega) (by omega) (fun r8 H8 r80 r81 g8 hb8 => ?_)
      walk_at "w"
      refine ⟨b, nl, m + 1, (7 + r7).toNat, most, 1 + r8, names, words, ?_, hb8.mono (by omega), by omega, by omega, by omega, g8.k1 (g7.k1 hn6 nnb) nnb, nnb, n0, by omega, hkeys, w0, w1, fun v H9 es g9 hb9 tt va ok ln => ?_⟩
      · rw [Int.toNat_of_nonneg (by omega)]
        rfl
      have g09 := (((g05.trans g6).trans g7).trans g8).trans g9
      walk_at "w"
      walk_at "i"
      refine use_take (n := m) hb9 (by omega) (by omega) (fun r10 H10 _ _ g10 hb10 => ?_)
      have tt10 := tt.gr g10
      walk_at "w"
      refine WK.w_2 (fun h1 => ?_) (fun h1 => ?_)
      · walk_at "w"
        refine use_ended tt10 va ok (by omega) fun v' H11 es' g11 tt' va' ok' ln' => ?_
        exact q v' H11 es' ((g09.trans g10).trans (g11.mono (by simp))) (hb10.keep g11 (by simp)) tt' va' ok' (by omega)
      · walk_at "w"
        exact q v H10 es (g09.trans g10) hb10 tt10 va ok (by omega)

end
end PK
namespace PK
open PySem L2
section
variable {P : Program} {w : World} {K : PySem.W.Frag} {mg : Str → Option Value} {base : Heap}
abbrev s_law_same : Stmt := topS 13
abbrev N_law_same : List Str := ["_law_found", "_law_due", "_law_mine", "_law_its"]
abbrev ps_law_same : List Str := ["_law_found", "_law_due"]
theorem sc_law_same : FnScope N_law_same ps_law_same (defScope s_law_same) := ⟨rfl, rfl, rfl, by decide +kernel, rfl, by decide +kernel, by decide +kernel⟩
def spSame (K : PySem.W.Frag) (n : Nat) : Sp := fun vs H Q _ => ∃ (x y : V) (d : PyData), vs = [x, y] ∧ Dp K H x d ∧ Dp K H y d ∧ Fine n d ∧ n ≤ 60 ∧ ∀ H', Gr [] H H' → Q (.bl true) H'
theorem same_body (D : Df K mg "_law_same" s_law_same ps_law_same) (T : Txt mg) (n k : Nat) (sp' : Sp) (G_law_same : Has P w K mg base k "_law_same" ps_law_same sp') (imp : ∀ m, n = m + 1 → ∀ vs H Q E, spSame K m vs H Q E → sp' vs H Q E) :
    Has P w K mg base (k + 1) "_law_same" ps_law_same (spSame K n) := Has.mk' D fun f fd F => by
  refine F.ok sc_law_same (fun vs H Q E h => ?_) (fun cdv A outer s H vs Q E hr h => ?_)
  · obtain ⟨x, y, d, rfl, _⟩ := h
    rfl
  · obtain ⟨x, y, d, rfl, hx, hy, hf, hn, q⟩ := h
    refine ⟨_, (pss_cons (ps_if (pt_val (pe_callB (call_isiTK (K := K)) (by rfl) T.m_isinstance (by decide +kernel) (pa_cons (pv 1) (pa_cons (pe_tup (pa_cons (pe_bltn (v := .ty "list") (by rfl) T.m_list (by decide +kernel) rfl) (pa_cons (pe_bltn (v := .ty "tuple") (by rfl) T.m_tuple (by decide +kernel) rfl) pa_nil))) pa_nil))))
  (pss_cons (ps_if (pt_cmpR op_ne (pe_callB (call_isiK' (K := K)) (by rfl) T.m_isinstance (by decide +kernel) (pa_cons (pv 0) (pa_cons (pe_bltn (v := .ty "list") (by rfl) T.m_list (by decide +kernel) rfl) pa_nil))) (pe_callB (call_isiK' (K := K)) (by rfl) T.m_isinstance (by decide +kernel) (pa_cons (pv 1) (pa_cons (pe_bltn (v := .ty "list") (by rfl) T.m_list (by decide +kernel) rfl) pa_nil))) (nomark _))
    (pss_one (ps_ret pe_bl))
    pss_nil)
  (pss_cons (ps_if (pt_cmpR op_ne (pe_callB (call_isiK' (K := K)) (by rfl) T.m_isinstance (by decide +kernel) (pa_cons (pv 0) (pa_cons (pe_bltn (v := .ty "tuple") (by rfl) T.m_tuple (by decide +kernel) rfl) pa_nil))) (pe_callB (call_isiK' (K := K)) (by rfl) T.m_isinstance (by decide +kernel) (pa_cons (pv 1) (pa_cons (pe_bltn (v := .ty "tuple") (by rfl) T.m_tuple (by decide +kernel) rfl) pa_nil))) (nomark _))
    (pss_one (ps_ret pe_bl))
    pss_nil)
  (pss_one (ps_ret (pe_and (pe_cmpR op_eq (pe_callB (call_len_seqK (K := K)) (by rfl) T.m_len (by decide +kernel) (pa_cons (pv 0) pa_nil)) (pe_callB (call_len_seqK (K := K)) (by rfl) T.m_len (by decide +kernel) (pa_cons (pv 1) pa_nil)) (nomark _)) (pe_one (pe_callB (cr_allK (K := K) rfl) (by rfl) T.m_all (by decide +kernel) (pa_cons (pe_lc (own := [("_law_mine", 2), ("_law_its", 3)]) (g := (gTup K 2 (gCons (gName 2) (gCons (gName 3) gNil))))  rfl sc_law_same.nd (RZ.pi_zipA (by rfl) T.m_zip (pa_cons (pv 0) (pa_cons (pv 1) pa_nil))) (blkOk_by (own := [("_law_mine", 2), ("_law_its", 3)]) (N := N_law_same) (sc := defScope s_law_same) (by decide +kernel)) (fun _ _ _ _ _ => (pg_tupK (K := K) rfl (pgs_cons (pg_name (i := 2) sc_law_same.nd rfl (Or.inl rfl)) (pgs_cons (pg_name (i := 3) sc_law_same.nd rfl (Or.inl rfl)) pgs_nil)))) (fun _ _ _ _ _ => pts_nil) (fun _ _ _ _ _ => (pe_callH G_law_same (hr.mono (by first | decide | omega)) (by rfl) (pa_cons (pv 2) (pa_cons (pv 3) pa_nil))))) pa_nil))))))))
  pss_nil)
(pss_cons (ps_if (PW.pt (pw_or (pt_cmpR op_isN (pv 1) pe_non (nomark _)) (pw_or1 (pt_val (pe_callB (call_isiTK (K := K)) (by rfl) T.m_isinstance (by decide +kernel) (pa_cons (pv 1) (pa_cons (pe_tup (pa_cons (pe_bltn (v := .ty "bool") (by rfl) T.m_bool (by decide +kernel) rfl) (pa_cons (pe_bltn (v := .ty "str") (by rfl) T.m_str (by decide +kernel) rfl) pa_nil))) pa_nil)))))))
  (pss_one (ps_ret (pe_and (pe_cmpR (op_eqDK (K := K) hr.units) (pv 0) (pv 1) (nomark _)) (pe_and (pe_cmpR op_eq (pe_callB (call_isiK' (K := K)) (by rfl) T.m_isinstance (by decide +kernel) (pa_cons (pv 0) (pa_cons (pe_bltn (v := .ty "bool") (by rfl) T.m_bool (by decide +kernel) rfl) pa_nil))) (pe_callB (call_isiK' (K := K)) (by rfl) T.m_isinstance (by decide +kernel) (pa_cons (pv 1) (pa_cons (pe_bltn (v := .ty "bool") (by rfl) T.m_bool (by decide +kernel) rfl) pa_nil))) (nomark _)) (pe_one (pe_cmpR op_eq (pe_cmpR op_isN (pv 0) pe_non (nomark _)) (pe_cmpR op_isN (pv 1) pe_non (nomark _)) (nomark _)))))))
  pss_nil)
(pss_one (ps_ret (pe_and (pe_callB (call_isiK' (K := K)) (by rfl) T.m_isinstance (by decide +kernel) (pa_cons (pv 0) (pa_cons (pe_bltn (v := .ty "int") (by rfl) T.m_int (by decide +kernel) rfl) pa_nil))) (pe_and (pe_not (pe_callB (call_isiK' (K := K)) (by rfl) T.m_isinstance (by decide +kernel) (pa_cons (pv 0) (pa_cons (pe_bltn (v := .ty "bool") (by rfl) T.m_bool (by decide +kernel) rfl) pa_nil)))) (pe_one (pe_cmpR (op_eqDK (K := K) hr.units) (pv 0) (pv 1) (nomark _))))))))), ?_⟩
    walk_at "w"
    refine WK.w_if ?_
    walk_at "w"
    refine ⟨WK.sz, fun t nt => ?_⟩
    have g1 : Gr [] H (upd H t (.tup [.ty "list", .ty "tuple"])) := Gr.new nt
    have ht : (upd H t (.tup [.ty "list", .ty "tuple"])) t = some (.tup [.ty "list", .ty "tuple"]) := upd_same
    have hx1 := dp_gr g1 d hx
    have hy1 := dp_gr g1 d hy
    generalize (upd H t (.tup [.ty "list", .ty "tuple"])) = H1 at *
    walk_at "w"
    cases d with
    | dict _ => cases n <;> exact hf.elim
    | none =>
      cases hx; cases hy
      refine w_isi2 hy1 ht (b1 := false) (b2 := false) (by walk_at "k") (by walk_at "k") ?_
      walk_at "w"
      refine WK.w_ifN (by decide) ?_
      walk_at "w"
      walk_at "i"
      walk_at "i"
      refine WK.w_ifP (by decide) ?_
      walk_at "w"
      refine WK.w_ifP (by decide) ?_
      walk_at "w"
      walk_at "i"
      refine w_eqSelf hx1 hy1 hf (by omega) ?_
      walk_at "w"
      refine WK.w_ifP (by decide) ?_
      walk_at "i"
      refine w_isi hx1 (b := false) (by walk_at "k") ?_
      walk_at "w"
      refine w_isi hy1 (b := false) (by walk_at "k") ?_
      walk_at "w"
      refine WK.w_ifP (by decide) ?_
      walk_at "w"
      exact q _ g1
    | bool b =>
      cases hx; cases hy
      refine w_isi2 hy1 ht (b1 := false) (b2 := false) (by walk_at "k") (by walk_at "k") ?_
      walk_at "w"
      refine WK.w_ifN (by decide) ?_
      walk_at "w"
      walk_at "i"
      walk_at "i"
      refine WK.w_ifN (by simp) ?_
      walk_at "w"
      refine ⟨WK.sz, fun t2 nt2 => ?_⟩
      have g2 : Gr [] H1 (upd H1 t2 (.tup [.ty "bool", .ty "str"])) := Gr.new nt2
      have ht2 : (upd H1 t2 (.tup [.ty "bool", .ty "str"])) t2 = some (.tup [.ty "bool", .ty "str"]) := upd_same
      have hx2 := dp_gr g2 _ hx1
      have hy2 := dp_gr g2 _ hy1
      generalize (upd H1 t2 (.tup [.ty "bool", .ty "str"])) = H2 at *
      walk_at "w"
      refine w_isi2 hy2 ht2 (b1 := true) (b2 := false) (by walk_at "k") (by walk_at "k") ?_
      walk_at "w"
      refine WK.w_ifP (by decide) ?_
      walk_at "w"
      walk_at "i"
      refine w_eqSelf hx2 hy2 hf (by omega) ?_
      walk_at "w"
      refine WK.w_ifP (by decide) ?_
      walk_at "i"
      refine w_isi hx2 (b := true) (by walk_at "k") ?_
      walk_at "w"
      refine w_isi hy2 (b := true) (by walk_at "k") ?_
      walk_at "w"
      refine WK.w_ifP (by decide) ?_
      walk_at "w"
      simp only [beq_self_eq_true]
      exact q _ (g1.trans g2)
    | int i =>
      cases hx; cases hy
      refine w_isi2 hy1 ht (b1 := false) (b2 := false) (by walk_at "k") (by walk_at "k") ?_
      walk_at "w"
      refine WK.w_ifN (by decide) ?_
      walk_at "w"
      walk_at "i"
      walk_at "i"
      refine WK.w_ifN (by simp) ?_
      walk_at "w"
      refine ⟨WK.sz, fun t2 nt2 => ?_⟩
      have g2 : Gr [] H1 (upd H1 t2 (.tup [.ty "bool", .ty "str"])) := Gr.new nt2
      have ht2 : (upd H1 t2 (.tup [.ty "bool", .ty "str"])) t2 = some (.tup [.ty "bool", .ty "str"]) := upd_same
      have hx2 := dp_gr g2 _ hx1
      have hy2 := dp_gr g2 _ hy1
      generalize (upd H1 t2 (.tup [.ty "bool", .ty "str"])) = H2 at *
      walk_at "w"
      refine w_isi2 hy2 ht2 (b1 := false) (b2 := false) (by walk_at "k") (by walk_at "k") ?_
      walk_at "w"
      refine WK.w_ifN (by decide) ?_
      walk_at "w"
      walk_at "i"
      refine w_isi hx2 (b := true) (by walk_at "k") ?_
      walk_at "w"
      refine WK.w_ifP rfl ?_
      walk_at "i"
      refine w_isi hx2 (b := false) (by walk_at "k") ?_
      walk_at "w"
      refine WK.w_ifP (by decide) ?_
      walk_at "w"
      refine w_eqSelf hx2 hy2 hf (by omega) ?_
      exact q _ (g1.trans g2)
    | str z =>
      cases hx; cases hy
      refine w_isi2 hy1 ht (b1 := false) (b2 := false) (by walk_at "k") (by walk_at "k") ?_
      walk_at "w"
      refine WK.w_ifN (by decide) ?_
      walk_at "w"
      walk_at "i"
      walk_at "i"
      refine WK.w_ifN (by simp) ?_
      walk_at "w"
      refine ⟨WK.sz, fun t2 nt2 => ?_⟩
      have g2 : Gr [] H1 (upd H1 t2 (.tup [.ty "bool", .ty "str"])) := Gr.new nt2
      have ht2 : (upd H1 t2 (.tup [.ty "bool", .ty "str"])) t2 = some (.tup [.ty "bool", .ty "str"]) := upd_same
      have hx2 := dp_gr g2 _ hx1
      have hy2 := dp_gr g2 _ hy1
      generalize (upd H1 t2 (.tup [.ty "bool", .ty "str"])) = H2 at *
      walk_at "w"
      refine w_isi2 hy2 ht2 (b1 := false) (b2 := true) (by walk_at "k") (by walk_at "k") ?_
      walk_at "w"
      refine WK.w_ifP (by decide) ?_
      walk_at "w"
      walk_at "i"
      refine w_eqSelf hx2 hy2 hf (by omega) ?_
      walk_at "w"
      refine WK.w_ifP (by decide) ?_
      walk_at "i"
      refine w_isi hx2 (b := false) (by walk_at "k") ?_
      walk_at "w"
      refine w_isi hy2 (b := false) (by walk_at "k") ?_
      walk_at "w"
      refine WK.w_ifP (by decide) ?_
      walk_at "w"
      simp only [beq_self_eq_true]
      exact q _ (g1.trans g2)
    | list ds =>
      refine w_isi2 hy1 ht (b1 := true) (b2 := false) (by walk_at "k") (by walk_at "k") ?_
      walk_at "w"
      refine WK.w_ifP (by decide) ?_
      walk_at "w"
      walk_at "i"
      refine w_isi hx1 (b := true) (by walk_at "k") ?_
      walk_at "w"
      refine w_isi hy1 (b := true) (by walk_at "k") ?_
      walk_at "w"
      refine WK.w_ifN (by decide) ?_
      walk_at "w"
      walk_at "i"
      refine w_isi hx1 (b := false) (by walk_at "k") ?_
      walk_at "w"
      refine w_isi hy1 (b := false) (by walk_at "k") ?_
      walk_at "w"
      refine WK.w_ifN (by decide) ?_
      walk_at "w"
      walk_at "i"
      clear hx hy
      cases n with
      | zero => exact hf.elim
      | succ m =>
      obtain ⟨hl, hds⟩ := hf
      cases hx1 with | lst hA hAs =>
      cases hy1 with | lst hB hBs =>
      rename_i a xs b ys
      have lA := dpAll_len hAs
      have lB := dpAll_len hBs
      refine ⟨_, _, rfl, .inl hA, ?_⟩
      walk_at "w"
      refine ⟨_, _, rfl, .inl hB, ?_⟩
      walk_at "w"
      refine WK.w_ifP (by rw [lA, lB]; exact decide_eq_true rfl) ?_
      walk_at "w"
      refine ⟨a, b, xs, ys, rfl, .inl ⟨hA, hB, ?_⟩⟩
      walk_at "w"
      refine lc_go (walk_zip (K := K) (n := xs.length) (by omega)) (fun Dn j acc H' => Gr [] H1 H' ∧ acc = (List.replicate j true).map V.bl)
        (fun Dn nD => ⟨Gr.new nD, rfl⟩) (fun Dn j acc H' _ ⟨g, _⟩ => ⟨sqL_gr g (by simp) hA, sqL_gr g (by simp) hB⟩) ?_ ?_
      · rintro Dn j ac x H5 H6 nD hj hD la ⟨g5, rfl⟩ ⟨T, x1, y1, rfl, nT, rfl, e1, e2⟩
        walk_at "w"
        refine ⟨rfl, ?_⟩
        walk_at "w"
        refine WK.w_ifP rfl ?_
        walk_at "w"
        have gT : Gr [] H5 (upd H5 T (.tup [x1, y1])) := Gr.new nT
        have g6 := g5.trans gT
        obtain ⟨d1, k1, p1⟩ := dpAll_get hAs e1
        obtain ⟨d2, k2, p2⟩ := dpAll_get hBs e2
        rw [k1] at k2
        cases k2
        refine imp m rfl _ _ _ _ ⟨x1, y1, d1, rfl, dp_gr g6 _ p1, dp_gr g6 _ p2, hds _ (List.mem_of_getElem? k1), by omega, fun H6 g7 => ?_⟩
        dsimp only
        have hD6 := (gT.trans g7).k0 hD
        refine lc_yes hD6 la (by omega) ⟨(g6.trans g7).own (Gr.mutL hD6 (by simp)) nD, ?_⟩
        rw [List.replicate_succ', List.map_append]
        rfl
      · rintro Dn ac H5 nD hD la ⟨g5, rfl⟩
        walk_at "w"
        refine ⟨Dn, _, rfl, SqL.of hD, ?_⟩
        rw [List.all_replicate, show (if xs.length = 0 then true else id true) = true from by split <;> rfl]
        exact q _ (g1.trans g5)
    | tuple ds =>
      refine w_isi2 hy1 ht (b1 := false) (b2 := true) (by walk_at "k") (by walk_at "k") ?_
      walk_at "w"
      refine WK.w_ifP (by decide) ?_
      walk_at "w"
      walk_at "i"
      refine w_isi hx1 (b := false) (by walk_at "k") ?_
      walk_at "w"
      refine w_isi hy1 (b := false) (by walk_at "k") ?_
      walk_at "w"
      refine WK.w_ifN (by decide) ?_
      walk_at "w"
      walk_at "i"
      refine w_isi hx1 (b := true) (by walk_at "k") ?_
      walk_at "w"
      refine w_isi hy1 (b := true) (by walk_at "k") ?_
      walk_at "w"
      refine WK.w_ifN (by decide) ?_
      walk_at "w"
      walk_at "i"
      clear hx hy
      cases n with
      | zero => exact hf.elim
      | succ m =>
      obtain ⟨hl, hds⟩ := hf
      cases hx1 with | tup hA hAs =>
      cases hy1 with | tup hB hBs =>
      rename_i a xs b ys
      have lA := dpAll_len hAs
      have lB := dpAll_len hBs
      refine ⟨_, _, rfl, .inr hA, ?_⟩
      walk_at "w"
      refine ⟨_, _, rfl, .inr hB, ?_⟩
      walk_at "w"
      refine WK.w_ifP (by rw [lA, lB]; exact decide_eq_true rfl) ?_
      walk_at "w"
      refine ⟨a, b, xs, ys, rfl, .inr ⟨hA, hB, ?_⟩⟩
      walk_at "w"
      refine lc_go (walk_zT (K := K) (by omega)) (fun Dn j acc H' => Gr [] H1 H' ∧ acc = (List.replicate j true).map V.bl)
        (fun Dn nD => ⟨Gr.new nD, rfl⟩) (fun Dn j acc H' _ ⟨g, _⟩ => ⟨sqT_gr g hA, sqT_gr g hB⟩) ?_ ?_
      · rintro Dn j ac x H5 H6 nD hj hD la ⟨g5, rfl⟩ ⟨T, x1, y1, rfl, nT, rfl, e1, e2⟩
        walk_at "w"
        refine ⟨rfl, ?_⟩
        walk_at "w"
        refine WK.w_ifP rfl ?_
        walk_at "w"
        have gT : Gr [] H5 (upd H5 T (.tup [x1, y1])) := Gr.new nT
        have g6 := g5.trans gT
        obtain ⟨d1, k1, p1⟩ := dpAll_get hAs e1
        obtain ⟨d2, k2, p2⟩ := dpAll_get hBs e2
        rw [k1] at k2
        cases k2
        refine imp m rfl _ _ _ _ ⟨x1, y1, d1, rfl, dp_gr g6 _ p1, dp_gr g6 _ p2, hds _ (List.mem_of_getElem? k1), by omega, fun H6 g7 => ?_⟩
        dsimp only
        have hD6 := (gT.trans g7).k0 hD
        refine lc_yes hD6 la (by omega) ⟨(g6.trans g7).own (Gr.mutL hD6 (by simp)) nD, ?_⟩
        rw [List.replicate_succ', List.map_append]
        rfl
      · rintro Dn ac H5 nD hD la ⟨g5, rfl⟩
        walk_at "w"
        refine ⟨Dn, _, rfl, SqL.of hD, ?_⟩
        rw [List.all_replicate, show (if xs.length = 0 then true else id true) = true from by split <;> rfl]
        exact q _ (g1.trans g5)
theorem has_same (D : Df K mg "_law_same" s_law_same ps_law_same) (T : Txt mg) : ∀ n : Nat, Has P w K mg base (n + 1) "_law_same" ps_law_same (spSame K n)
  | 0 => same_body D T 0 0 (fun _ _ _ _ => False) (Has.bot D 0) (fun m e => by omega)
  | n + 1 => same_body D T (n + 1) (n + 1) (spSame K n) (has_same D T n) (fun m e => by
    obtain rfl : n = m := by omega
    exact fun _ _ _ _ h => h)

end
end PK
namespace PK
open PySem L2
section
variable {P : Program} {w : World} {K : PySem.W.Frag} {mg : Str → Option Value} {base : Heap}
/-- a whole number, no truth value -/
def plainB : PyData → Bool
  | .int _ => true
  | _ => false
/-- a test of one value: what it tells of the value's data -/
def spTell (K : PySem.W.Frag) (f : PyData → Bool) (n : Nat) : Sp := fun vs H Q _ => ∃ (v : V) (d : PyData), vs = [v] ∧ Dp K H v d ∧ Fine n d ∧ ∀ H', Gr [] H H' → Q (.bl (f d)) H'
theorem fine_dict {n : Nat} {kvs : List (PyData × PyData)} (h : Fine n (.dict kvs)) : False := by cases n <;> exact h.elim
abbrev s_law_is_plain : Stmt := topS 22
abbrev N_law_is_plain : List Str := ["_law_matter"]
abbrev ps_law_is_plain : List Str := ["_law_matter"]
theorem sc_law_is_plain : FnScope N_law_is_plain ps_law_is_plain (defScope s_law_is_plain) := ⟨rfl, rfl, rfl, by decide +kernel, rfl, by decide +kernel, by decide +kernel⟩
theorem has_plain (D : Df K mg "_law_is_plain" s_law_is_plain ps_law_is_plain) (T : Txt mg) (n : Nat) : Has P w K mg base 1 "_law_is_plain" ps_law_is_plain (spTell K plainB n) := Has.mk' D fun f fd F => by
  refine F.ok sc_law_is_plain (fun vs H Q E h => ?_) (fun cdv A outer s H vs Q E hr h => ?_)
  · obtain ⟨v, d, rfl, _⟩ := h
    rfl
  · obtain ⟨v, d, rfl, hv, hf, q⟩ := h
    refine ⟨_, (pss_one (ps_ret (pe_and (pe_callB (call_isiK' (K := K)) (by rfl) T.m_isinstance (by decide +kernel) (pa_cons (pv 0) (pa_cons (pe_bltn (v := .ty "int") (by rfl) T.m_int (by decide +kernel) rfl) pa_nil))) (pe_one (pe_not (pe_callB (call_isiK' (K := K)) (by rfl) T.m_isinstance (by decide +kernel) (pa_cons (pv 0) (pa_cons (pe_bltn (v := .ty "bool") (by rfl) T.m_bool (by decide +kernel) rfl) pa_nil)))))))), ?_⟩
    walk_at "w"
    walk_at "i"
    have q := q H (Gr.refl _ _)
    cases d with
    | dict _ => exact (fine_dict hf).elim
    | int i =>
      refine w_isi hv (b := true) (by walk_at "k") ?_
      walk_at "w"
      refine WK.w_ifP rfl ?_
      walk_at "w"
      refine w_isi hv (b := false) (by walk_at "k") ?_
      walk_at "w"
      exact q
    | bool b =>
      refine w_isi hv (b := true) (by walk_at "k") ?_
      walk_at "w"
      refine WK.w_ifP rfl ?_
      walk_at "w"
      refine w_isi hv (b := true) (by walk_at "k") ?_
      walk_at "w"
      exact q
    | none =>
      refine w_isi hv (b := false) (by walk_at "k") ?_
      walk_at "w"
      exact WK.w_ifN (by decide) q
    | str x =>
      refine w_isi hv (b := false) (by walk_at "k") ?_
      walk_at "w"
      exact WK.w_ifN (by decide) q
    | list x =>
      refine w_isi hv (b := false) (by walk_at "k") ?_
      walk_at "w"
      exact WK.w_ifN (by decide) q
    | tuple x =>
      refine w_isi hv (b := false) (by walk_at "k") ?_
      walk_at "w"
      exact WK.w_ifN (by decide) q

end
end PK
namespace PK
open PySem L2
section
variable {P : Program} {w : World} {K : PySem.W.Frag} {mg : Str → Option Value} {base : Heap}
def Brief : PyData → Prop
  | .str x => x.length ≤ 1000
  | _ => True
def abc : Str := "abcdefghijklmnopqrstuvwxyz"
/-- the signs of x that are no letters a to z -/
def odd (x : Str) : List Nat := x.cps.toList.filter fun c => !decide (c ∈ abc.cps.toList)
def nameB : PyData → Bool
  | .str x => decide (1 ≤ (x.length : Int)) && decide ((x.length : Int) ≤ 8) && (odd x).isEmpty
  | _ => false
def signD (c : Nat) : PyData := .str ⟨#[c]⟩
theorem sign_ok {x : Str} (h : PyData.strOk x = true) {c : Nat} (hc : c ∈ x.cps.toList) : PyData.strOk ⟨#[c]⟩ = true := by
  have h : x.cps.all (· < 0x110000) = true := h
  rw [Array.all_eq_true_iff_forall_mem] at h
  have z := h c (by simpa using hc)
  show (#[c] : Array Nat).all (· < 0x110000) = true
  simpa using z
theorem w_eqNil {H : Hp} {Q : VK} {a p : Addr} {xs : List V} {ds : List PyData} {n : Nat} (h : SqL K H a xs) (hd : DpAll K H xs ds) (hs : ShA ds n) (l : n ≤ 63) (he : H p = some (.lst [])) (k : Q (.bl ds.isEmpty) H) : rEqD K (.ref a) (.ref p) H Q :=
  ⟨.list ds, .list [], .lst h hd, .lst (SqL.of he) .nil, hs.list.shaped (by omega), (ShA.nil (n := 0)).list.shaped (by omega), by
    have e : PyData.eqv (.list ds) (.list []) = ds.isEmpty := by cases ds <;> simp [PyData.eqv, PyData.eqvAll]
    rw [e]
    exact k⟩
theorem signs_dp {H : Hp} : ∀ cs : List Nat, DpAll K H (cs.map fun c => V.str ⟨#[c]⟩) (cs.map signD)
  | [] => .nil
  | c :: cs => .cons (.str _) (signs_dp cs)
theorem signs_sh {x : Str} (h : PyData.strOk x = true) : ∀ {cs : List Nat}, (∀ c ∈ cs, c ∈ x.cps.toList) → ShA (cs.map signD) 0
  | [], _ => .nil
  | c :: cs, q => .cons (.str (sign_ok h (q c (by simp)))) (signs_sh h fun d hd => q d (by simp [hd]))
abbrev s_law_is_name : Stmt := topS 23
abbrev N_law_is_name : List Str := ["_law_matter", "_law_letters", "_law_sign"]
abbrev ps_law_is_name : List Str := ["_law_matter"]
theorem sc_law_is_name : FnScope N_law_is_name ps_law_is_name (defScope s_law_is_name) := ⟨rfl, rfl, rfl, by decide +kernel, rfl, by decide +kernel, by decide +kernel⟩
def spName (K : PySem.W.Frag) (n : Nat) : Sp := fun vs H Q _ => ∃ (v : V) (d : PyData), vs = [v] ∧ Dp K H v d ∧ Fine n d ∧ Brief d ∧ ∀ H', Gr [] H H' → Q (.bl (nameB d)) H'
theorem has_name (D : Df K mg "_law_is_name" s_law_is_name ps_law_is_name) (T : Txt mg) (n : Nat) : Has P w K mg base 1 "_law_is_name" ps_law_is_name (spName K n) := Has.mk' D fun f fd F => by
  refine F.ok sc_law_is_name (fun vs H Q E h => ?_) (fun cdv A outer s H vs Q E hr h => ?_)
  · obtain ⟨v, d, rfl, _⟩ := h
    rfl
  · obtain ⟨v, d, rfl, hv, hf, hb, q⟩ := h
    refine ⟨_, (pss_cons (ps_set (i := 1) sc_law_is_name.nd rfl (Or.inr rfl) pe_str)
(pss_one (ps_ret (pe_and (pe_callB (call_isiK' (K := K)) (by rfl) T.m_isinstance (by decide +kernel) (pa_cons (pv 0) (pa_cons (pe_bltn (v := .ty "str") (by rfl) T.m_str (by decide +kernel) rfl) pa_nil))) (pe_and (pe_chain op_le op_le pe_int (pe_callB call_len_str (by rfl) T.m_len (by decide +kernel) (pa_cons (pv 0) pa_nil)) pe_int) (pe_one (pe_cmpR (op_eqDK (K := K) hr.units) (pe_lc (own := [("_law_sign", 2)]) (g := gName 2)  rfl sc_law_is_name.nd (pi_str (pv 0)) (blkOk_by (own := [("_law_sign", 2)]) (N := N_law_is_name) (sc := defScope s_law_is_name) (by decide +kernel)) (fun _ _ _ _ _ => pg_name (i := 2) sc_law_is_name.nd rfl (Or.inl rfl)) (fun _ _ _ _ _ => pts_one (pt_cmpR op_notIn_sign (pv 2) (pv 1) (by rfl))) (fun _ _ _ _ _ => (pv 2))) (pe_lst pa_nil) (nomark _)))))))), ?_⟩
    walk_at "w"
    walk_at "i"
    cases d with
    | dict _ => exact (fine_dict hf).elim
    | str x =>
      cases hv
      have ok : PyData.strOk x = true := by cases n <;> exact hf
      have hb : x.length ≤ 1000 := hb
      refine w_isi (d := .str x) (.str x) (b := true) (by walk_at "k") ?_
      walk_at "w"
      refine WK.w_ifP rfl ?_
      walk_at "w"
      walk_at "i"
      refine WK.w_chain ?_
      walk_at "w"
      refine ⟨x, rfl, Nat.le_of_lt (WK.sz' (by omega)), ?_⟩
      walk_at "w"
      refine WK.w_2 (fun h1 => ?_) (fun h1 => ?_)
      · walk_at "w"
        refine WK.w_2 (fun h8 => ?_) (fun h8 => ?_)
        · walk_at "w"
          refine ⟨x, rfl, ?_⟩
          refine lc_go (walk_str (z := x)) (fun Dn j acc H' => Gr [] H H' ∧ acc = ((x.cps.toList.take j).filter fun c => !decide (c ∈ abc.cps.toList)).map fun c => V.str ⟨#[c]⟩) (fun Dn nD => ⟨Gr.new nD, rfl⟩) (fun _ _ _ _ _ _ => trivial) ?_ ?_
          · rintro Dn j acc y H2 H3 nD hj hD la ⟨g2, rfl⟩ ⟨rfl, c, hc, rfl⟩
            have tk : x.cps.toList.take (j + 1) = x.cps.toList.take j ++ [c] := take_snoc (by rw [Array.getElem?_toList]; exact hc)
            have jl : j < 1000 := Nat.lt_of_lt_of_le hj hb
            walk_at "w"
            refine ⟨rfl, ?_⟩
            walk_at "w"
            refine ⟨c, abc, rfl, rfl, ?_⟩
            walk_at "w"
            have zz : c ∈ abc.cps ↔ c ∈ abc.cps.toList := by simp
            by_cases z : c ∈ abc.cps.toList
            · refine WK.w_ifN (by simp [z]) (lc_no hD la ⟨g2, ?_⟩)
              rw [tk, List.filter_append]
              simp [zz.mpr z]
            · refine WK.w_ifP (by simp [z]) ?_
              walk_at "w"
              refine lc_yes hD la (by omega) ⟨g2.own (Gr.mutL hD (by simp)) nD, ?_⟩
              rw [tk, List.filter_append, List.map_append]
              have z2 : c ∉ abc.cps := fun h => z (zz.mp h)
              simp [z2]
          · rintro Dn acc H2 nD hD la ⟨g2, rfl⟩
            walk_at "w"
            refine ⟨WK.sz, fun p np => ?_⟩
            have g3 : Gr [] H2 (upd H2 p (.lst [])) := Gr.new np
            have ft : x.cps.toList.take x.cps.size = x.cps.toList := List.take_of_length_le (by simp)
            rw [ft] at hD
            refine w_eqNil (SqL.of (g3.k0 hD)) (signs_dp (odd x)) (signs_sh ok fun c hc => (List.mem_filter.mp hc).1) (by omega) upd_same ?_
            have e : ((odd x).map signD).isEmpty = nameB (.str x) := by
              simp [nameB, h1, h8, List.isEmpty_map]
            rw [e]
            exact q _ (g2.trans g3)
        · have e : nameB (.str x) = false := by simp [nameB, h8]
          rw [e] at q
          exact q _ (Gr.refl _ _)
      · have e : nameB (.str x) = false := by simp [nameB, h1]
        rw [e] at q
        walk_at "w"
        exact WK.w_ifN (by decide) (q _ (Gr.refl _ _))
    | int i => exact w_isi hv (b := false) (by walk_at "k") ⟨false, rfl, WK.w_ifN (by decide) (q _ (Gr.refl _ _))⟩
    | bool b => exact w_isi hv (b := false) (by walk_at "k") ⟨false, rfl, WK.w_ifN (by decide) (q _ (Gr.refl _ _))⟩
    | none => exact w_isi hv (b := false) (by walk_at "k") ⟨false, rfl, WK.w_ifN (by decide) (q _ (Gr.refl _ _))⟩
    | list _ => exact w_isi hv (b := false) (by walk_at "k") ⟨false, rfl, WK.w_ifN (by decide) (q _ (Gr.refl _ _))⟩
    | tuple _ => exact w_isi hv (b := false) (by walk_at "k") ⟨false, rfl, WK.w_ifN (by decide) (q _ (Gr.refl _ _))⟩

end
end PK
namespace PK
open PySem L2
section
variable {P : Program} {w : World} {K : PySem.W.Frag} {mg : Str → Option Value} {base : Heap}
abbrev s_is_number : Stmt := topS 4
abbrev N_is_number : List Str := ["thing"]
abbrev ps_is_number : List Str := ["thing"]
theorem sc_is_number : FnScope N_is_number ps_is_number (defScope s_is_number) := ⟨rfl, rfl, rfl, by decide +kernel, rfl, by decide +kernel, by decide +kernel⟩
theorem has_number (D : Df K mg "is_number" s_is_number ps_is_number) (T : Txt mg) (n : Nat) : Has P w K mg base 1 "is_number" ps_is_number (spTell K plainB n) := Has.mk' D fun f fd F => by
  refine F.ok sc_is_number (fun vs H Q E h => ?_) (fun cdv A outer s H vs Q E hr h => ?_)
  · obtain ⟨v, d, rfl, _⟩ := h
    rfl
  · obtain ⟨v, d, rfl, hv, hf, q⟩ := h
    refine ⟨_, (pss_one (ps_ret (pe_and (pe_callB (call_isiK' (K := K)) (by rfl) T.m_isinstance (by decide +kernel) (pa_cons (pv 0) (pa_cons (pe_bltn (v := .ty "int") (by rfl) T.m_int (by decide +kernel) rfl) pa_nil))) (pe_one (pe_not (pe_callB (call_isiK' (K := K)) (by rfl) T.m_isinstance (by decide +kernel) (pa_cons (pv 0) (pa_cons (pe_bltn (v := .ty "bool") (by rfl) T.m_bool (by decide +kernel) rfl) pa_nil)))))))), ?_⟩
    walk_at "w"
    walk_at "i"
    have q := q H (Gr.refl _ _)
    cases d with
    | dict _ => exact (fine_dict hf).elim
    | int i =>
      refine w_isi hv (b := true) (by walk_at "k") ?_
      walk_at "w"
      refine WK.w_ifP rfl ?_
      walk_at "w"
      refine w_isi hv (b := false) (by walk_at "k") ?_
      walk_at "w"
      exact q
    | bool b =>
      refine w_isi hv (b := true) (by walk_at "k") ?_
      walk_at "w"
      refine WK.w_ifP rfl ?_
      walk_at "w"
      refine w_isi hv (b := true) (by walk_at "k") ?_
      walk_at "w"
      exact q
    | none =>
      refine w_isi hv (b := false) (by walk_at "k") ?_
      walk_at "w"
      exact WK.w_ifN (by decide) q
    | str x =>
      refine w_isi hv (b := false) (by walk_at "k") ?_
      walk_at "w"
      exact WK.w_ifN (by decide) q
    | list x =>
      refine w_isi hv (b := false) (by walk_at "k") ?_
      walk_at "w"
      exact WK.w_ifN (by decide) q
    | tuple x =>
      refine w_isi hv (b := false) (by walk_at "k") ?_
      walk_at "w"
      exact WK.w_ifN (by decide) q

end
end PK
namespace PK
open PySem L2
section
variable {P : Program} {w : World} {K : PySem.W.Frag} {mg : Str → Option Value} {base : Heap}
def countB : PyData → Bool
  | .int i => decide (0 ≤ i)
  | _ => false
abbrev s_is_count : Stmt := topS 5
abbrev N_is_count : List Str := ["thing"]
abbrev ps_is_count : List Str := ["thing"]
theorem sc_is_count : FnScope N_is_count ps_is_count (defScope s_is_count) := ⟨rfl, rfl, rfl, by decide +kernel, rfl, by decide +kernel, by decide +kernel⟩
theorem has_count (D : Df K mg "is_count" s_is_count ps_is_count) (T : Txt mg) (n : Nat) (G_is_number : Has P w K mg base 1 "is_number" ps_is_number (spTell K plainB n)) : Has P w K mg base 2 "is_count" ps_is_count (spTell K countB n) := Has.mk' D fun f fd F => by
  refine F.ok sc_is_count (fun vs H Q E h => ?_) (fun cdv A outer s H vs Q E hr h => ?_)
  · obtain ⟨v, d, rfl, _⟩ := h
    rfl
  · obtain ⟨v, d, rfl, hv, hf, q⟩ := h
    refine ⟨_, (pss_one (ps_ret (pe_and (pe_callH G_is_number (hr.mono (by decide)) (by rfl) (pa_cons (pv 0) pa_nil)) (pe_one (pe_cmpR op_ge (pv 0) pe_int (nomark _)))))), ?_⟩
    walk_at "w"
    walk_at "i"
    refine ⟨v, d, rfl, hv, hf, fun H2 g2 => ?_⟩
    have q := q H2 g2
    walk_at "w"
    cases d with
    | int i =>
      cases hv
      refine WK.w_ifP rfl ?_
      walk_at "w"
      exact q
    | _ => exact WK.w_ifN (by simp [plainB]) q

end
end PK
namespace PK
open PySem L2
section
variable {P : Program} {w : World} {K : PySem.W.Frag} {mg : Str → Option Value} {base : Heap}
abbrev v_LETTERS : V := .str abc
abbrev v_LONGEST_KEY : V := .int 8
/-- the two constants of the module -/
structure TxtK (mg : Str → Option Value) : Prop where
  ab : ∃ t, mg "LETTERS" = some (.str abc t)
  lo : ∃ t, mg "LONGEST_KEY" = some (.int 8 t)
theorem Fb.brief {n : Nat} {d : PyData} (h : Fb n d) : Brief d := by
  cases d with
  | str x => cases n <;> exact h.2
  | _ => trivial
theorem Fb.strOk {n : Nat} {x : Str} (h : Fb n (.str x)) : PyData.strOk x = true ∧ x.length ≤ 1000 := by cases n <;> exact h
theorem odd_all (cs : List Nat) : ((cs.map fun c => decide (c ∈ abc.cps.toList)).all id) = (cs.filter fun c => !decide (c ∈ abc.cps.toList)).isEmpty := by
  induction cs with
  | nil => rfl
  | cons c cs ih =>
    by_cases h : c ∈ abc.cps.toList
    · rw [List.map_cons, List.all_cons, ih, List.filter_cons, if_neg (by simp [h])]
      simp [h]
    · rw [List.map_cons, List.all_cons, ih, List.filter_cons, if_pos (by simp [h])]
      simp [h]
abbrev s_is_key : Stmt := topS 6
abbrev N_is_key : List Str := ["thing", "letter"]
abbrev ps_is_key : List Str := ["thing"]
theorem sc_is_key : FnScope N_is_key ps_is_key (defScope s_is_key) := ⟨rfl, rfl, rfl, by decide +kernel, rfl, by decide +kernel, by decide +kernel⟩
theorem has_key (D : Df K mg "is_key" s_is_key ps_is_key) (T : Txt mg) (TK : TxtK mg) (n : Nat) : Has P w K mg base 1 "is_key" ps_is_key (spAsk K nameB n) := by
  obtain ⟨t1, h_LETTERS⟩ := TK.ab
  obtain ⟨t2, h_LONGEST_KEY⟩ := TK.lo
  refine Has.mk' D fun f fd F => ?_
  refine F.ok sc_is_key (fun vs H Q E h => ?_) (fun cdv A outer s H vs Q E hr h => ?_)
  · obtain ⟨v, d, rfl, _⟩ := h
    rfl
  · obtain ⟨v, d, rfl, hv, hf, q⟩ := h
    refine ⟨_, (pss_cons (ps_if (PW.pt (pw_or (pt_not (pt_val (pe_callB (call_isiK' (K := K)) (by rfl) T.m_isinstance (by decide +kernel) (pa_cons (pv 0) (pa_cons (pe_bltn (v := .ty "str") (by rfl) T.m_str (by decide +kernel) rfl) pa_nil))))) (pw_or1 (pt_not (pt_chain op_le op_le pe_int (pe_callB call_len_str (by rfl) T.m_len (by decide +kernel) (pa_cons (pv 0) pa_nil)) (pe_glob (v := v_LONGEST_KEY) rfl h_LONGEST_KEY ⟨_, rfl⟩))))))
  (pss_one (ps_ret pe_bl))
  pss_nil)
(pss_one (ps_ret (pe_callB (cr_allK (K := K) rfl) (by rfl) T.m_all (by decide +kernel) (pa_cons (pe_lc (own := [("letter", 1)]) (g := gName 1)  rfl sc_is_key.nd (pi_str (pv 0)) (blkOk_by (own := [("letter", 1)]) (N := N_is_key) (sc := defScope s_is_key) (by decide +kernel)) (fun _ _ _ _ _ => pg_name (i := 1) sc_is_key.nd rfl (Or.inl rfl)) (fun _ _ _ _ _ => pts_nil) (fun _ _ _ _ _ => (pe_cmpR op_in_sign (pv 1) (pe_glob (v := v_LETTERS) rfl h_LETTERS ⟨_, rfl⟩) (by rfl)))) pa_nil))))), ?_⟩
    walk_at "w"
    walk_at "i"
    walk_at "i"
    have no : ∀ (H' : Hp), Gr [] H H' → nameB d = false → Q (.bl false) H' := fun H' g e => by
      have := q H' g
      rw [e] at this
      exact this
    cases d with
    | dict _ => exact (fine_dict hf.fine).elim
    | str x =>
      cases hv
      obtain ⟨ok, hb⟩ := hf.strOk
      refine w_isi (d := .str x) (.str x) (b := true) (by walk_at "k") ?_
      walk_at "w"
      refine WK.w_ifN (by decide) ?_
      walk_at "w"
      refine WK.w_chain ?_
      walk_at "w"
      refine ⟨x, rfl, Nat.le_of_lt (WK.sz' (by omega)), ?_⟩
      walk_at "w"
      refine WK.w_2 (fun h1 => ?_) (fun h1 => ?_)
      · walk_at "w"
        refine WK.w_2n (fun h8 => ?_) (fun h8 => ?_)
        · walk_at "w"
          exact no _ (Gr.refl _ _) (by simp [nameB, h8])
        · walk_at "w"
          refine ⟨x, rfl, ?_⟩
          refine lc_go (walk_str (z := x)) (fun Dn j acc H' => Gr [] H H' ∧ acc = ((x.cps.toList.take j).map fun c => decide (c ∈ abc.cps.toList)).map V.bl) (fun Dn nD => ⟨Gr.new nD, rfl⟩) (fun _ _ _ _ _ _ => trivial) ?_ ?_
          · rintro Dn j acc y H2 H3 nD hj hD la ⟨g2, rfl⟩ ⟨rfl, c, hc, rfl⟩
            have tk : x.cps.toList.take (j + 1) = x.cps.toList.take j ++ [c] := take_snoc (by rw [Array.getElem?_toList]; exact hc)
            have jl : j < 1000 := Nat.lt_of_lt_of_le hj hb
            walk_at "w"
            refine ⟨rfl, ?_⟩
            walk_at "w"
            refine WK.w_ifP rfl ?_
            walk_at "w"
            refine ⟨c, abc, rfl, rfl, ?_⟩
            refine lc_yes hD la (by omega) ⟨g2.own (Gr.mutL hD (by simp)) nD, ?_⟩
            rw [tk, List.map_append, List.map_append]
            rfl
          · rintro Dn acc H2 nD hD la ⟨g2, rfl⟩
            have ft : x.cps.toList.take x.cps.size = x.cps.toList := List.take_of_length_le (by simp)
            rw [ft] at hD
            refine ⟨Dn, _, rfl, SqL.of hD, ?_⟩
            rw [odd_all]
            have e : ((x.cps.toList.filter fun c => !decide (c ∈ abc.cps.toList))).isEmpty = nameB (.str x) := by
              simp [nameB, h1, h8, odd]
            rw [e]
            exact q _ g2
      · walk_at "w"
        exact no _ (Gr.refl _ _) (by simp [nameB, h1])
    | int i => exact w_isi hv (b := false) (by walk_at "k") ⟨false, rfl, WK.w_ifP (by decide) (no _ (Gr.refl _ _) rfl)⟩
    | bool b => exact w_isi hv (b := false) (by walk_at "k") ⟨false, rfl, WK.w_ifP (by decide) (no _ (Gr.refl _ _) rfl)⟩
    | none => exact w_isi hv (b := false) (by walk_at "k") ⟨false, rfl, WK.w_ifP (by decide) (no _ (Gr.refl _ _) rfl)⟩
    | list _ => exact w_isi hv (b := false) (by walk_at "k") ⟨false, rfl, WK.w_ifP (by decide) (no _ (Gr.refl _ _) rfl)⟩
    | tuple _ => exact w_isi hv (b := false) (by walk_at "k") ⟨false, rfl, WK.w_ifP (by decide) (no _ (Gr.refl _ _) rfl)⟩

end
end PK
namespace PK
open PySem L2
section
variable {P : Program} {w : World} {K : PySem.W.Frag} {mg : Str → Option Value} {base : Heap}
/-- whether data is an event -/
def evB : PyData → Bool
  | .tuple [c] => isW "wait" c
  | .tuple [c, x] => if isW "drop" c then nameB x else if isW "join" c then countB x else if isW "save" c then countB x else false
  | .tuple [c, x, y] => if isW "put" c then nameB x && plainB y else if isW "read" c then countB x && countB y else if isW "load" c then countB x && countB y else false
  | _ => false
theorem evB_none : evB .none = false := rfl
theorem evB_long (a b c d : PyData) (r : List PyData) : evB (.tuple (a :: b :: c :: d :: r)) = false := rfl
abbrev WD : List Str := ["put", "drop", "join", "read", "save", "load", "wait"]
theorem fb_in {n : Nat} {ds : List PyData} (h : Fb (n + 1) (.tuple ds)) : ∀ d ∈ ds, Fb n d := h.2
theorem fb_zero {ds : List PyData} (h : Fb 0 (.tuple ds)) : False := h
abbrev s_is_event : Stmt := topS 7
abbrev N_is_event : List Str := ["thing", "key", "value", "reader", "upto", "copy"]
abbrev ps_is_event : List Str := ["thing"]
theorem sc_is_event : FnScope N_is_event ps_is_event (defScope s_is_event) := ⟨rfl, rfl, rfl, by decide +kernel, rfl, by decide +kernel, by decide +kernel⟩
theorem has_isev (D : Df1 K mg "is_event" s_is_event ps_is_event) (T : Txt mg) (n : Nat) (hn : n ≤ 60) (G_is_key : Has P w K mg base 1 "is_key" ps_is_key (spAsk K nameB n)) (G_is_number : Has P w K mg base 1 "is_number" ps_is_number (spTell K plainB n)) (G_is_count : Has P w K mg base 2 "is_count" ps_is_count (spTell K countB n)) :
    Has1 P w K mg base 3 "is_event" ps_is_event (spAsk K evB (n + 1)) := Has1.mk' D fun f fd F => by
  refine F.ok sc_is_event (fun vs H Q E h => ?_) (fun cdv A outer s H vs Q E hr h => ?_)
  · obtain ⟨v, d, rfl, _⟩ := h
    rfl
  · obtain ⟨v, d, rfl, hv, hf, q⟩ := h
    refine ⟨_, (pss_cons (ps_if (pt_not (pt_val (pe_callB (call_isiK' (K := K)) (by rfl) T.m_isinstance (by decide +kernel) (pa_cons (pv 0) (pa_cons (pe_bltn (v := .ty "tuple") (by rfl) T.m_tuple (by decide +kernel) rfl) pa_nil)))))
  (pss_one (ps_ret pe_bl))
  pss_nil)
(pss_cons (ps_match (pv 0) (pcs_word sc_is_event.nd rfl (op_eqDK (K := K) hr.units) (.name (i := 1) rfl rfl (.name (i := 2) rfl rfl .nil)) (pss_one (ps_ret (pe_and (pe_callH G_is_key (hr.mono (by decide)) (by rfl) (pa_cons (pv 1) pa_nil)) (pe_one (pe_callH G_is_number (hr.mono (by decide)) (by rfl) (pa_cons (pv 2) pa_nil))))))
(pcs_word sc_is_event.nd rfl (op_eqDK (K := K) hr.units) (.name (i := 1) rfl rfl .nil) (pss_one (ps_ret (pe_callH G_is_key (hr.mono (by decide)) (by rfl) (pa_cons (pv 1) pa_nil))))
(pcs_word sc_is_event.nd rfl (op_eqDK (K := K) hr.units) (.name (i := 3) rfl rfl .nil) (pss_one (ps_ret (pe_callH G_is_count (hr.mono (by decide)) (by rfl) (pa_cons (pv 3) pa_nil))))
(pcs_word sc_is_event.nd rfl (op_eqDK (K := K) hr.units) (.name (i := 3) rfl rfl (.name (i := 4) rfl rfl .nil)) (pss_one (ps_ret (pe_and (pe_callH G_is_count (hr.mono (by decide)) (by rfl) (pa_cons (pv 3) pa_nil)) (pe_one (pe_callH G_is_count (hr.mono (by decide)) (by rfl) (pa_cons (pv 4) pa_nil))))))
(pcs_word sc_is_event.nd rfl (op_eqDK (K := K) hr.units) (.name (i := 3) rfl rfl .nil) (pss_one (ps_ret (pe_callH G_is_count (hr.mono (by decide)) (by rfl) (pa_cons (pv 3) pa_nil))))
(pcs_word sc_is_event.nd rfl (op_eqDK (K := K) hr.units) (.name (i := 3) rfl rfl (.name (i := 5) rfl rfl .nil)) (pss_one (ps_ret (pe_and (pe_callH G_is_count (hr.mono (by decide)) (by rfl) (pa_cons (pv 3) pa_nil)) (pe_one (pe_callH G_is_count (hr.mono (by decide)) (by rfl) (pa_cons (pv 5) pa_nil))))))
(pcs_word sc_is_event.nd rfl (op_eqDK (K := K) hr.units) .nil (pss_one (ps_ret pe_bl))
pcs_nil))))))))
(pss_one (ps_ret pe_bl)))), ?_⟩
    walk_at "w"
    walk_at "i"
    have no : ∀ (H' : Hp), Gr [] H H' → evB d = false → Q (.bl false) H' := fun H' g e => by
      have := q H' g
      rw [e] at this
      exact this
    cases d with
    | dict _ => exact (fine_dict hf.fine).elim
    | tuple ds =>
      cases hv with
      | tup hS hd =>
      rename_i a xs
      have hin := fb_in hf
      refine w_isi (d := .tuple ds) (.tup hS hd) (b := true) (by walk_at "k") ?_
      walk_at "w"
      refine WK.w_ifN (by decide) ?_
      walk_at "w"
      refine w_match ?_
      walk_at "w"
      have ok : ∀ w ∈ WD, PyData.strOk w = true := by decide +kernel
      cases hd with
      | nil => 
        refine c_skip hS (by simp) (c_skip hS (by simp) (c_skip hS (by simp) (c_skip hS (by simp) (c_skip hS (by simp) (c_skip hS (by simp) (c_skip hS (by simp) (c_nil ?_)))))))
        walk_at "w"
        exact no _ (Gr.refl _ _) rfl
      | cons h0 hd =>
        rename_i x ys c cs
        have f0 : Fine n c := (hin _ (by simp)).fine
        cases hd with
        | nil =>
          refine c_skip hS (by simp) (c_skip hS (by simp) (c_skip hS (by simp) (c_skip hS (by simp) (c_skip hS (by simp) (c_skip hS (by simp) (c_try hS rfl h0 f0 (by omega) (ok _ (by simp)) (fun z => ?_) (fun z => c_nil ?_)))))))
          · walk_at "w"
            have q := q _ (Gr.refl _ _)
            rw [show evB (.tuple [c]) = true from z] at q
            exact q
          · walk_at "w"
            exact no _ (Gr.refl _ _) z
        | cons h1 hd =>
          rename_i x1 ys d1 ds
          have f1 : Fb n d1 := hin _ (by simp)
          cases hd with
          | nil =>
            refine c_skip hS (by simp) (c_try hS rfl h0 f0 (by omega) (ok _ (by simp)) (fun z1 => ?_) (fun z1 => c_try hS rfl h0 f0 (by omega) (ok _ (by simp)) (fun z2 => ?_) (fun z2 => c_skip hS (by simp) (c_try hS rfl h0 f0 (by omega) (ok _ (by simp)) (fun z3 => ?_) (fun z3 => c_skip hS (by simp) (c_skip hS (by simp) (c_nil ?_)))))))
            · walk_at "w"
              refine ⟨x1, d1, rfl, h1, f1, fun H' g => ?_⟩
              have q := q _ g
              simp only [evB, z1, if_true] at q
              exact q
            · walk_at "w"
              refine ⟨x1, d1, rfl, h1, f1.fine, fun H' g => ?_⟩
              have q := q _ g
              simp only [evB, z1, z2, if_true, Bool.false_eq_true, if_false] at q
              exact q
            · walk_at "w"
              refine ⟨x1, d1, rfl, h1, f1.fine, fun H' g => ?_⟩
              have q := q _ g
              simp only [evB, z1, z2, z3, if_true, Bool.false_eq_true, if_false] at q
              exact q
            · walk_at "w"
              exact no _ (Gr.refl _ _) (by simp only [evB, z1, z2, z3, Bool.false_eq_true, if_false])
          | cons h2 hd =>
            rename_i x2 ys d2 ds
            have f2 : Fb n d2 := hin _ (by simp)
            cases hd with
            | nil =>
              refine c_try hS rfl h0 f0 (by omega) (ok _ (by simp)) (fun z1 => ?_) (fun z1 => c_skip hS (by simp) (c_skip hS (by simp) (c_try hS rfl h0 f0 (by omega) (ok _ (by simp)) (fun z2 => ?_) (fun z2 => c_skip hS (by simp) (c_try hS rfl h0 f0 (by omega) (ok _ (by simp)) (fun z3 => ?_) (fun z3 => c_skip hS (by simp) (c_nil ?_)))))))
              · walk_at "w"
                walk_at "i"
                refine ⟨x1, d1, rfl, h1, f1, fun H' g => ?_⟩
                walk_at "w"
                cases e1 : nameB d1 with
                | true =>
                  refine WK.w_ifP rfl ?_
                  walk_at "w"
                  refine ⟨x2, d2, rfl, dp_gr g _ h2, f2.fine, fun H2 g2 => ?_⟩
                  have q := q _ (g.trans g2)
                  simp only [evB, z1, e1, if_true, Bool.true_and] at q
                  exact q
                | false => exact WK.w_ifN (by decide) (no _ g (by simp only [evB, z1, e1, if_true, Bool.false_and]))
              · walk_at "w"
                walk_at "i"
                refine ⟨x1, d1, rfl, h1, f1.fine, fun H' g => ?_⟩
                walk_at "w"
                cases e1 : countB d1 with
                | true =>
                  refine WK.w_ifP rfl ?_
                  walk_at "w"
                  refine ⟨x2, d2, rfl, dp_gr g _ h2, f2.fine, fun H2 g2 => ?_⟩
                  have q := q _ (g.trans g2)
                  simp only [evB, z1, z2, e1, if_true, Bool.true_and, Bool.false_eq_true, if_false] at q
                  exact q
                | false => exact WK.w_ifN (by decide) (no _ g (by simp only [evB, z1, z2, e1, if_true, Bool.false_and, Bool.false_eq_true, if_false]))
              · walk_at "w"
                walk_at "i"
                refine ⟨x1, d1, rfl, h1, f1.fine, fun H' g => ?_⟩
                walk_at "w"
                cases e1 : countB d1 with
                | true =>
                  refine WK.w_ifP rfl ?_
                  walk_at "w"
                  refine ⟨x2, d2, rfl, dp_gr g _ h2, f2.fine, fun H2 g2 => ?_⟩
                  have q := q _ (g.trans g2)
                  simp only [evB, z1, z2, z3, e1, if_true, Bool.true_and, Bool.false_eq_true, if_false] at q
                  exact q
                | false => exact WK.w_ifN (by decide) (no _ g (by simp only [evB, z1, z2, z3, e1, if_true, Bool.false_and, Bool.false_eq_true, if_false]))
              · walk_at "w"
                exact no _ (Gr.refl _ _) (by simp only [evB, z1, z2, z3, Bool.false_eq_true, if_false])
            | cons h3 hd =>
              refine c_skip hS (by simp) (c_skip hS (by simp) (c_skip hS (by simp) (c_skip hS (by simp) (c_skip hS (by simp) (c_skip hS (by simp) (c_skip hS (by simp) (c_nil ?_)))))))
              walk_at "w"
              exact no _ (Gr.refl _ _) rfl
    | int i => exact w_isi hv (b := false) (by walk_at "k") ⟨false, rfl, WK.w_ifP (by decide) (no _ (Gr.refl _ _) rfl)⟩
    | bool b => exact w_isi hv (b := false) (by walk_at "k") ⟨false, rfl, WK.w_ifP (by decide) (no _ (Gr.refl _ _) rfl)⟩
    | none => exact w_isi hv (b := false) (by walk_at "k") ⟨false, rfl, WK.w_ifP (by decide) (no _ (Gr.refl _ _) rfl)⟩
    | list _ => exact w_isi hv (b := false) (by walk_at "k") ⟨false, rfl, WK.w_ifP (by decide) (no _ (Gr.refl _ _) rfl)⟩
    | str _ => exact w_isi hv (b := false) (by walk_at "k") ⟨false, rfl, WK.w_ifP (by decide) (no _ (Gr.refl _ _) rfl)⟩

end
end PK
namespace PK
open PySem L2
section
variable {P : Program} {w : World} {K : PySem.W.Frag} {mg : Str → Option Value} {base : Heap}
/-! the class Walk -/
abbrev aS : Str := "seats"
abbrev aV : Str := "saved"
abbrev aT : Str := "total"
abbrev wF (sd cl : Addr) (m : Int) : List (Str × V) := [(aS, .ref sd), (aV, .ref cl), (aT, .int m)]
structure WkAt (C : Addr) (H : Hp) (p sd cl : Addr) (st : WS) (n : Nat) : Prop where
  ob : ∃ dx, H p = some (.ins C dx (wF sd cl st.many))
  s : SeatsAt H sd st.seats n
  c : H cl = some (.lst (st.copies.map V.int))
  cn : st.copies.length ≤ n
structure WkC (K : PySem.W.Frag) (C : Addr) : Prop where
  cl : Cls K C
  nS : NoAttr K C "seats"
  nV : NoAttr K C "saved"
  nT : NoAttr K C "total"
theorem a_sv : ¬ (("seats" : Str) = "saved") := by decide +kernel
theorem a_st : ¬ (("seats" : Str) = "total") := by decide +kernel
theorem a_vt : ¬ (("saved" : Str) = "total") := by decide +kernel
theorem wF_1 {x : V} : putF aS x [] = [(aS, x)] := rfl
theorem wF_2 {x y : V} : putF aV y [(aS, x)] = [(aS, x), (aV, y)] := by
  simp only [putF]; rw [if_neg a_sv]
theorem wF_3 {x y z : V} : putF aT z [(aS, x), (aV, y)] = [(aS, x), (aV, y), (aT, z)] := by
  simp only [putF]; rw [if_neg a_st, if_neg a_vt]
theorem wF_put {x y z u : V} : putF aT u [(aS, x), (aV, y), (aT, z)] = [(aS, x), (aV, y), (aT, u)] := by
  simp only [putF]; rw [if_neg a_st, if_neg a_vt]; rfl
theorem wF_seats {sd cl : Addr} {m : Int} : (wF sd cl m).lookup aS = some (.ref sd) := by simp [List.lookup]
theorem wF_saved {sd cl : Addr} {m : Int} : (wF sd cl m).lookup aV = some (.ref cl) := by
  have e : (("saved" : Str) == "seats") = false := by decide +kernel
  simp [List.lookup, e]
theorem wF_total {sd cl : Addr} {m : Int} : (wF sd cl m).lookup aT = some (.int m) := by
  have e : (("total" : Str) == "seats") = false := by decide +kernel
  have e2 : (("total" : Str) == "saved") = false := by decide +kernel
  simp [List.lookup, e, e2]
theorem wF_none {sd cl : Addr} {m : Int} {x : Str} (h1 : (x == ("seats" : Str)) = false := by decide +kernel) (h2 : (x == ("saved" : Str)) = false := by decide +kernel) (h3 : (x == ("total" : Str)) = false := by decide +kernel) : (wF sd cl m).lookup x = none := by
  simp [List.lookup, h1, h2, h3]
theorem WK.w_fld {K : PySem.W.Frag} {ta : TE} {f : Str} {σ : L2.St} {H : Hp} {Q : VK} (k : ta σ H fun x H1 => ∃ a C dx fs v, x = .ref a ∧ H1 a = some (.ins C dx fs) ∧ Cls K C ∧ NoAttr K C f ∧ fs.lookup f = some v ∧ Q v H1) : tFld K ta f σ H Q := k
theorem SeatsAt.get {H : Hp} {sd : Addr} {f : Int → Option Int} {n : Nat} (h : SeatsAt H sd f n) (r : Int) : DGet H sd (.int r) ((f r).map V.int) := by
  obtain ⟨kvs, ks, hs, _, _, _, _, h5⟩ := h
  have q := DGet.k (k := .inl r) hs
  rw [h5] at q
  exact q
theorem SeatsAt.gr {H H' : Hp} {sd : Addr} {f : Int → Option Int} {n : Nat} {M : List Addr} (h : SeatsAt H sd f n) (g : Gr M H H') (h2 : sd ∉ M) : SeatsAt H' sd f n := by
  obtain ⟨kvs, ks, hs, r⟩ := h
  exact ⟨kvs, ks, g.keep _ _ h2 hs, r⟩
theorem SeatsAt.mono {H : Hp} {sd : Addr} {f : Int → Option Int} {n m : Nat} (h : SeatsAt H sd f n) (l : n ≤ m) : SeatsAt H sd f m := by
  obtain ⟨kvs, ks, hs, r1, r2, r3, r4⟩ := h
  exact ⟨kvs, ks, hs, r1, r2, by omega, r4⟩
section
variable {C : Addr} {H H' : Hp} {p sd cl : Addr} {st : WS} {n : Nat} {Q : VK}
theorem WkAt.keep {M : List Addr} (h : WkAt C H p sd cl st n) (g : Gr M H H') (h1 : p ∉ M) (h2 : sd ∉ M) (h3 : cl ∉ M) : WkAt C H' p sd cl st n := by
  obtain ⟨⟨dx, ho⟩, s, hc, cn⟩ := h
  exact ⟨⟨dx, g.keep _ _ h1 ho⟩, s.gr g h2, g.keep _ _ h3 hc, cn⟩
theorem WkAt.ne1 (h : WkAt C H p sd cl st n) : p ≠ sd := by
  obtain ⟨dx, ho⟩ := h.ob
  obtain ⟨kvs, ks, hs, _⟩ := h.s
  exact ne_of ho hs (by intro q; cases q)
theorem WkAt.ne2 (h : WkAt C H p sd cl st n) : p ≠ cl := by
  obtain ⟨dx, ho⟩ := h.ob
  exact ne_of ho h.c (by intro q; cases q)
theorem WkAt.ne3 (h : WkAt C H p sd cl st n) : sd ≠ cl := by
  obtain ⟨kvs, ks, hs, _⟩ := h.s
  exact ne_of hs h.c (by intro q; cases q)
theorem WkAt.seats {σ : L2.St} {i : Nat} (h : WkAt C H p sd cl st n) (W : WkC K C) (hi : σ[i]? = some (some (.ref p))) (k : Q (.ref sd) H) : tFld K (tVar i) "seats" σ H Q := by
  obtain ⟨dx, ho⟩ := h.ob
  exact ⟨_, hi, p, C, dx, _, _, rfl, ho, W.cl, W.nS, wF_seats, k⟩
theorem WkAt.saved {σ : L2.St} {i : Nat} (h : WkAt C H p sd cl st n) (W : WkC K C) (hi : σ[i]? = some (some (.ref p))) (k : Q (.ref cl) H) : tFld K (tVar i) "saved" σ H Q := by
  obtain ⟨dx, ho⟩ := h.ob
  exact ⟨_, hi, p, C, dx, _, _, rfl, ho, W.cl, W.nV, wF_saved, k⟩
theorem WkAt.total {σ : L2.St} {i : Nat} (h : WkAt C H p sd cl st n) (W : WkC K C) (hi : σ[i]? = some (some (.ref p))) (k : Q (.int st.many) H) : tFld K (tVar i) "total" σ H Q := by
  obtain ⟨dx, ho⟩ := h.ob
  exact ⟨_, hi, p, C, dx, _, _, rfl, ho, W.cl, W.nT, wF_total, k⟩
end
def spInit (C : Addr) : Sp := fun vs H Q _ => ∃ (p dx : Addr), vs = [.ref p] ∧ H p = some (.ins C dx []) ∧ ∀ (sd cl : Addr) (H' : Hp), H sd = none → H cl = none → Gr [p] H H' → WkAt C H' p sd cl .nil 0 → Q .non H'
abbrev s_Walk___init__ : Stmt := inClass (topS 3) 0
abbrev N_Walk___init__ : List Str := ["self"]
abbrev ps_Walk___init__ : List Str := ["self"]
theorem sc_Walk___init__ : FnScope N_Walk___init__ ps_Walk___init__ (defScope s_Walk___init__) := ⟨rfl, rfl, rfl, by decide +kernel, rfl, by decide +kernel, by decide +kernel⟩
theorem has_init {C : Addr} (D : DfI K mg C "Walk" "Walk.__init__" s_Walk___init__ ps_Walk___init__) (T : Txt mg) (W : WkC K C) : HasI P w K mg base C 1 "Walk" ps_Walk___init__ (spInit C) := HasI.mk' D fun f fd F => by
  refine F.ok sc_Walk___init__ (fun vs H Q E h => ?_) (fun cdv A outer s H vs Q E hr h => ?_)
  · obtain ⟨p, dx, rfl, _⟩ := h
    rfl
  · obtain ⟨p, dx, rfl, hp, q⟩ := h
    refine ⟨_, (pss_cons (ps_fld (pv 0) pe_dnewK rfl)
(pss_cons (ps_fld (pv 0) (pe_lst pa_nil) rfl)
(pss_one (ps_fld (pv 0) pe_int rfl)))), ?_⟩
    intro d hd
    have np : p ≠ d := ne_of_none hp hd
    have g1 : Gr [] H (upd H d (.dK [])) := Gr.new hd
    have h1 : (upd H d (.dK [])) d = some (.dK []) := upd_same
    have hp1 := g1.k0 hp
    generalize (upd H d (.dK [])) = H1 at *
    refine ⟨_, rfl, p, C, dx, [], rfl, hp1, W.cl, W.nS, by simp, ?_⟩
    have g2 : Gr [p] H1 (upd H1 p (.ins C dx (putF aS (.ref d) []))) := Gr.mut hp1 (fun _ z => by cases z) (by simp)
    have h2 := g2.k1 h1 np.symm
    have hp2 : (upd H1 p (.ins C dx (putF aS (.ref d) []))) p = _ := upd_same
    generalize (upd H1 p (.ins C dx (putF aS (.ref d) []))) = H2 at *
    rw [wF_1] at hp2
    refine WK.w_seq ?_
    refine ⟨WK.sz, fun c nc => ?_⟩
    have ncl : H c = none := by
      cases e : H c with
      | none => rfl
      | some o =>
        by_cases z : c = p
        · rw [z, hp2] at nc
          cases nc
        · rw [g2.k1 (g1.k0 e) z] at nc
          cases nc
    have np2 : p ≠ c := ne_of_none hp2 nc
    have nd2 : d ≠ c := ne_of_none h2 nc
    have g3 : Gr [] H2 (upd H2 c (.lst [])) := Gr.new nc
    have h3 : (upd H2 c (.lst [])) c = some (.lst []) := upd_same
    have hd3 := g3.k0 h2
    have hp3 := g3.k0 hp2
    generalize (upd H2 c (.lst [])) = H3 at *
    refine ⟨_, rfl, p, C, dx, _, rfl, hp3, W.cl, W.nV, by simp, ?_⟩
    rw [wF_2]
    have g4 : Gr [p] H3 (upd H3 p (.ins C dx [(aS, .ref d), (aV, .ref c)])) := Gr.mut hp3 (fun _ z => by cases z) (by simp)
    have h4 := g4.k1 h3 np2.symm
    have hd4 := g4.k1 hd3 np.symm
    have hp4 : (upd H3 p (.ins C dx [(aS, .ref d), (aV, .ref c)])) p = _ := upd_same
    generalize (upd H3 p (.ins C dx [(aS, .ref d), (aV, .ref c)])) = H4 at *
    refine ⟨_, rfl, p, C, dx, _, rfl, hp4, W.cl, W.nT, by simp, ?_⟩
    rw [wF_3]
    have g5 : Gr [p] H4 (upd H4 p (.ins C dx [(aS, .ref d), (aV, .ref c), (aT, .int 0)])) := Gr.mut hp4 (fun _ z => by cases z) (by simp)
    refine q d c _ hd ncl (((((g1.mono (by simp)).trans g2).trans (g3.mono (by simp))).trans g4).trans g5) ⟨⟨dx, upd_same⟩, ⟨[], [], g5.k1 hd4 np.symm, rfl, List.nodup_nil, by simp, fun r => by simp [WS.nil], fun r => rfl⟩, g5.k1 h4 np2.symm, by simp [WS.nil]⟩

end
end PK
namespace PK
open PySem L2
section
variable {P : Program} {w : World} {K : PySem.W.Frag} {mg : Str → Option Value} {base : Heap}
/-! events as data, and as they are -/
def evE : PyData → Ev
  | .tuple [.str _, .str k, .int v] => .put k v
  | .tuple [.str w, .int r, .int u] => if w = "read" then .read r u else .load r u
  | .tuple [.str _, .str k] => .drop k
  | .tuple [.str w, .int r] => if w = "join" then .join r else if w = "save" then .save r else .wait
  | _ => .wait
def Ev.nice : Ev → Prop
  | .join r => 0 ≤ r
  | .read r u => 0 ≤ r ∧ 0 ≤ u
  | .save r => 0 ≤ r
  | .load r c => 0 ≤ r ∧ 0 ≤ c
  | _ => True
theorem isW_is {w : Str} {d : PyData} (h : isW w d = true) : d = .str w := by
  cases d with
  | str x => rw [isW_str] at h; rw [of_decide_eq_true h]
  | _ => simp [isW, PyData.eqv] at h
theorem plain_is {d : PyData} (h : plainB d = true) : ∃ i, d = .int i := by
  cases d with
  | int i => exact ⟨i, rfl⟩
  | _ => simp [plainB] at h
theorem count_is {d : PyData} (h : countB d = true) : ∃ i, d = .int i ∧ 0 ≤ i := by
  cases d with
  | int i => exact ⟨i, rfl, of_decide_eq_true h⟩
  | _ => simp [countB] at h
theorem name_is {d : PyData} (h : nameB d = true) : ∃ k, d = .str k := by
  cases d with
  | str k => exact ⟨k, rfl⟩
  | _ => simp [nameB] at h
theorem ev_is {d : PyData} (h : evB d = true) : d = evD (evE d) ∧ (evE d).nice := by
  cases d with
  | tuple ds =>
    match ds, h with
    | [c], h =>
      have e := isW_is (show isW "wait" c = true from h)
      subst e
      exact ⟨rfl, trivial⟩
    | [c, x], h =>
      have h : (if isW "drop" c then nameB x else if isW "join" c then countB x else if isW "save" c then countB x else false) = true := h
      by_cases z1 : isW "drop" c = true
      · rw [if_pos z1] at h
        obtain ⟨k, rfl⟩ := name_is h
        have e := isW_is z1
        subst e
        exact ⟨rfl, trivial⟩
      · rw [if_neg z1] at h
        by_cases z2 : isW "join" c = true
        · rw [if_pos z2] at h
          obtain ⟨k, rfl, k0⟩ := count_is h
          have e := isW_is z2
          subst e
          have q : evE (.tuple [.str "join", .int k]) = .join k := by
            show (if (("join" : Str) = "join") then Ev.join k else if (("join" : Str) = "save") then Ev.save k else Ev.wait) = _
            exact if_pos rfl
          rw [q]
          exact ⟨rfl, k0⟩
        · rw [if_neg z2] at h
          by_cases z3 : isW "save" c = true
          · rw [if_pos z3] at h
            obtain ⟨k, rfl, k0⟩ := count_is h
            have e := isW_is z3
            subst e
            have q : evE (.tuple [.str "save", .int k]) = .save k := by
              show (if (("save" : Str) = "join") then Ev.join k else if (("save" : Str) = "save") then Ev.save k else Ev.wait) = _
              rw [if_neg (by decide +kernel), if_pos rfl]
            rw [q]
            exact ⟨rfl, k0⟩
          · rw [if_neg z3] at h
            cases h
    | [c, x, y], h =>
      have h : (if isW "put" c then nameB x && plainB y else if isW "read" c then countB x && countB y else if isW "load" c then countB x && countB y else false) = true := h
      by_cases z1 : isW "put" c = true
      · rw [if_pos z1, Bool.and_eq_true] at h
        obtain ⟨k, rfl⟩ := name_is h.1
        obtain ⟨i, rfl⟩ := plain_is h.2
        have e := isW_is z1
        subst e
        exact ⟨rfl, trivial⟩
      · rw [if_neg z1] at h
        by_cases z2 : isW "read" c = true
        · rw [if_pos z2, Bool.and_eq_true] at h
          obtain ⟨k, rfl, k0⟩ := count_is h.1
          obtain ⟨i, rfl, i0⟩ := count_is h.2
          have e := isW_is z2
          subst e
          have q : evE (.tuple [.str "read", .int k, .int i]) = .read k i := by
            show (if (("read" : Str) = "read") then Ev.read k i else Ev.load k i) = _
            exact if_pos rfl
          rw [q]
          exact ⟨rfl, k0, i0⟩
        · rw [if_neg z2] at h
          by_cases z3 : isW "load" c = true
          · rw [if_pos z3, Bool.and_eq_true] at h
            obtain ⟨k, rfl, k0⟩ := count_is h.1
            obtain ⟨i, rfl, i0⟩ := count_is h.2
            have e := isW_is z3
            subst e
            have q : evE (.tuple [.str "load", .int k, .int i]) = .load k i := by
              show (if (("load" : Str) = "read") then Ev.read k i else Ev.load k i) = _
              exact if_neg (by decide +kernel)
            rw [q]
            exact ⟨rfl, k0, i0⟩
          · rw [if_neg z3] at h
            cases h
    | [], h => cases h
    | _ :: _ :: _ :: _ :: _, h => cases h
  | _ => simp [evB] at h
theorem dp_int_is {H : Hp} {v : V} {i : Int} (h : Dp K H v (.int i)) : v = .int i := by cases h; rfl
theorem dp_str_is {H : Hp} {v : V} {x : Str} (h : Dp K H v (.str x)) : v = .str x := by cases h; rfl
/-- the tuple that an event's data stands for -/
theorem dp_ev {H : Hp} {v : V} {e : Ev} (h : Dp K H v (evD e)) : ∃ a, v = .ref a ∧ SqT K H a e.vs := by
  unfold evD tpD at h
  cases h with
  | tup hS hd =>
  refine ⟨_, rfl, ?_⟩
  cases e with
  | put k v =>
    cases hd with | cons h0 hd => cases hd with | cons h1 hd => cases hd with | cons h2 hd => cases hd; rw [dp_str_is h0, dp_str_is h1, dp_int_is h2] at hS; exact hS
  | drop k =>
    cases hd with | cons h0 hd => cases hd with | cons h1 hd => cases hd; rw [dp_str_is h0, dp_str_is h1] at hS; exact hS
  | join r =>
    cases hd with | cons h0 hd => cases hd with | cons h1 hd => cases hd; rw [dp_str_is h0, dp_int_is h1] at hS; exact hS
  | read r u =>
    cases hd with | cons h0 hd => cases hd with | cons h1 hd => cases hd with | cons h2 hd => cases hd; rw [dp_str_is h0, dp_int_is h1, dp_int_is h2] at hS; exact hS
  | save r =>
    cases hd with | cons h0 hd => cases hd with | cons h1 hd => cases hd; rw [dp_str_is h0, dp_int_is h1] at hS; exact hS
  | load r c =>
    cases hd with | cons h0 hd => cases hd with | cons h1 hd => cases hd with | cons h2 hd => cases hd; rw [dp_str_is h0, dp_int_is h1, dp_int_is h2] at hS; exact hS
  | wait =>
    cases hd with | cons h0 hd => cases hd; rw [dp_str_is h0] at hS; exact hS
def fitsB (s : WS) : Ev → Bool
  | .read r u => match s.seats r with
    | some p => decide (p < u) && decide (u ≤ s.many)
    | none => false
  | .save r => (s.seats r).isSome
  | .load _ c => decide (c < s.copies.length)
  | _ => true
theorem fits_of {s : WS} {e : Ev} (n : e.nice) (h : fitsB s e = true) : s.fits e := by
  cases e with
  | read r u =>
    cases q : s.seats r with
    | none => simp [fitsB, q] at h
    | some p =>
      simp [fitsB, q] at h
      exact ⟨p, q, h⟩
  | save r =>
    cases q : s.seats r with
    | none => simp [fitsB, q] at h
    | some p => exact ⟨p, q⟩
  | load r c =>
    simp only [fitsB, decide_eq_true_eq] at h
    exact ⟨n.2, h⟩
  | _ => trivial
def spFits (K : PySem.W.Frag) (C : Addr) : Sp := fun vs H Q _ => ∃ (p sd cl : Addr) (st : WS) (n : Nat) (v a : V) (b : Addr) (e : Ev), vs = [.ref p, .ref b] ∧ WkAt C H p sd cl st n ∧ n ≤ 1000 ∧ SqT K H b e.vs ∧
  ∀ H' : Hp, Gr [] H H' → Q (.bl (fitsB st e)) H'
abbrev s_Walk_fits : Stmt := inClass (topS 3) 1
abbrev N_Walk_fits : List Str := ["self", "event", "reader", "upto", "copy"]
abbrev ps_Walk_fits : List Str := ["self", "event"]
theorem sc_Walk_fits : FnScope N_Walk_fits ps_Walk_fits (defScope s_Walk_fits) := ⟨rfl, rfl, rfl, by decide +kernel, rfl, by decide +kernel, by decide +kernel⟩
theorem has_fits {C : Addr} (D : DfM K C "fits" "Walk.fits" s_Walk_fits ps_Walk_fits) (T : Txt mg) (W : WkC K C) : HasM P w K mg base C 1 "fits" ps_Walk_fits (spFits K C) := HasM.mk' D fun f fd F => by
  refine F.ok sc_Walk_fits (fun vs H Q E h => ?_) (fun cdv A outer s H vs Q E hr h => ?_)
  · obtain ⟨p, sd, cl, st, n, v, a, b, e, rfl, _⟩ := h
    rfl
  · obtain ⟨p, sd, cl, st, n, v, a, b, e, rfl, hw, hn, hS, q⟩ := h
    have q := q H (Gr.refl _ _)
    refine ⟨_, (pss_cons (ps_match (pv 1) (pcs_word sc_Walk_fits.nd rfl (op_eqDK (K := K) hr.units) (.name (i := 2) rfl rfl (.name (i := 3) rfl rfl .nil)) (pss_one (ps_ret (pe_and (pe_cmp (pc_din (hu_of hr) (pv 2) (pe_fld (pv 0) rfl))) (pe_one (pe_chain op_lt op_le (pe_dget (hu_of hr) (pe_fld (pv 0) rfl) (pv 2) (fun _ _ => rfl)) (pv 3) (pe_fld (pv 0) rfl))))))
(pcs_word sc_Walk_fits.nd rfl (op_eqDK (K := K) hr.units) (.name (i := 2) rfl rfl .nil) (pss_one (ps_ret (pe_cmp (pc_din (hu_of hr) (pv 2) (pe_fld (pv 0) rfl)))))
(pcs_word sc_Walk_fits.nd rfl (op_eqDK (K := K) hr.units) (.skip (.name (i := 4) rfl rfl .nil)) (pss_one (ps_ret (pe_cmpR op_lt (pv 4) (pe_callB (call_len_seqK (K := K)) (by rfl) T.m_len (by decide +kernel) (pa_cons (pe_fld (pv 0) rfl) pa_nil)) (nomark _))))
pcs_nil))))
(pss_one (ps_ret pe_bl))), ?_⟩
    have ok : ∀ w ∈ WD, PyData.strOk w = true := by decide +kernel
    walk_at "w"
    refine w_match ?_
    walk_at "w"
    cases e with
    | read r u =>
      refine c_yes hS rfl (ok _ (by simp)) ?_
      walk_at "w"
      walk_at "i"
      refine hw.seats W rfl ?_
      refine ⟨sd, _, rfl, hw.s.get r, ?_⟩
      walk_at "w"
      cases e : st.seats r with
      | none =>
        refine WK.w_ifN (by decide) ?_
        rw [show fitsB st (.read r u) = false from by simp [fitsB, e]] at q
        exact q
      | some z =>
        refine WK.w_ifP rfl ?_
        refine WK.w_chain ?_
        walk_at "w"
        refine hw.seats W rfl ?_
        walk_at "w"
        have hg := hw.s.get r
        rw [e] at hg
        refine ⟨sd, _, rfl, hg, ?_⟩
        walk_at "w"
        refine WK.w_2 (fun h1 => ?_) (fun h1 => ?_)
        · refine hw.total W rfl ?_
          walk_at "w"
          rw [show fitsB st (.read r u) = decide (u ≤ st.many) from by simp [fitsB, e, h1]] at q
          exact q
        · rw [show fitsB st (.read r u) = false from by simp [fitsB, e, h1]] at q
          exact q
    | save r => 
      refine c_not hS (ok _ (by simp)) (ok _ (by simp)) (by decide +kernel) (c_yes hS rfl (ok _ (by simp)) ?_)
      walk_at "w"
      refine hw.seats W rfl ?_
      refine ⟨sd, _, rfl, hw.s.get r, ?_⟩
      rw [show fitsB st (.save r) = ((st.seats r).map V.int).isSome from by simp [fitsB]] at q
      exact q
    | load r c =>
      refine c_not hS (ok _ (by simp)) (ok _ (by simp)) (by decide +kernel) (c_not hS (ok _ (by simp)) (ok _ (by simp)) (by decide +kernel) (c_yes hS rfl (ok _ (by simp)) ?_))
      walk_at "w"
      refine hw.saved W rfl ?_
      walk_at "w"
      refine w_len hw.c ?_
      walk_at "w"
      rw [List.length_map]
      exact q
    | _ =>
      refine c_not hS (ok _ (by simp)) (ok _ (by simp)) (by decide +kernel) (c_not hS (ok _ (by simp)) (ok _ (by simp)) (by decide +kernel) (c_not hS (ok _ (by simp)) (ok _ (by simp)) (by decide +kernel) (c_nil ?_)))
      walk_at "w"
      exact q

end
end PK
namespace PK
open PySem L2
section
variable {P : Program} {w : World} {K : PySem.W.Frag} {mg : Str → Option Value} {base : Heap}
def spStep (K : PySem.W.Frag) (C : Addr) : Sp := fun vs H Q _ => ∃ (p sd cl : Addr) (st : WS) (n : Nat) (b : Addr) (e : Ev), vs = [.ref p, .ref b] ∧ WkAt C H p sd cl st n ∧ n ≤ 1000 ∧ SqT K H b e.vs ∧ st.fits e ∧
  ∀ H' : Hp, Gr [p, sd, cl] H H' → WkAt C H' p sd cl (st.step e) (n + 1) → Q .non H'
section
variable {C : Addr} {H : Hp} {p sd cl : Addr} {st : WS} {n : Nat}
theorem WkAt.p_seat (h : WkAt C H p sd cl st n) (hn : n ≤ 1000) (r q : Int) : ∃ o, DPut H sd (.int r) (.int q) (upd H sd o) ∧ WkAt C (upd H sd o) p sd cl (st.seat r q) (n + 1) ∧ Gr [p, sd, cl] H (upd H sd o) := by
  obtain ⟨kvs, ks, hs, q1, q2, q3, q4⟩ := id h.s
  have hl : kvs.length < sizeLine := by
    have e : kvs.length = ks.length := by rw [← List.length_map (f := (·.1)), q1, List.length_map]
    rw [e]
    exact Nat.lt_of_le_of_lt (Nat.le_trans q3 hn) (by decide)
  obtain ⟨dx, ho⟩ := h.ob
  refine ⟨_, DPut.k (k := .inl r) hs hl, ⟨⟨dx, ?_⟩, h.s.put hs, ?_, Nat.le_succ_of_le h.cn⟩, Gr.mutD hs (by simp)⟩
  · rw [upd_ne h.ne1]; exact ho
  · rw [upd_ne h.ne3.symm]; exact h.c
theorem WkAt.p_total (h : WkAt C H p sd cl st n) (j : Int) {dx : Addr} (ho : H p = some (.ins C dx (wF sd cl st.many))) : WkAt C (upd H p (.ins C dx (wF sd cl j))) p sd cl { st with many := j } (n + 1) ∧ Gr [p, sd, cl] H (upd H p (.ins C dx (wF sd cl j))) := by
  have g : Gr [p] H (upd H p (.ins C dx (wF sd cl j))) := Gr.mut ho (fun _ z => by cases z) (by simp)
  exact ⟨⟨⟨dx, upd_same⟩, (h.s.gr g (by simpa using h.ne1.symm)).mono (by omega), g.k1 h.c h.ne2.symm, Nat.le_succ_of_le h.cn⟩, g.mono (by simp)⟩
end
theorem WK.w_fldaug {K : PySem.W.Frag} {ta tv : TE} {rd : V → V → Hp → VK → Prop} {f : Str} {D : Ends} {σ : L2.St} {H : Hp} (k : ta σ H fun x H1 => ∃ a C dx fs v, x = .ref a ∧ H1 a = some (.ins C dx fs) ∧ Cls K C ∧ NoAttr K C f ∧ fs.lookup f = some v ∧
  tv σ H1 fun y H2 => rd v y H2 fun z H3 => ∃ dx' fs', H3 a = some (.ins C dx' fs') ∧ fs'.length < 1000 ∧ D.nx σ (upd H3 a (.ins C dx' (putF f z fs')))) : sFldAug K ta tv rd f D σ H := k
abbrev s_Walk_step : Stmt := inClass (topS 3) 2
abbrev N_Walk_step : List Str := ["self", "event", "reader", "upto", "copy"]
abbrev ps_Walk_step : List Str := ["self", "event"]
theorem sc_Walk_step : FnScope N_Walk_step ps_Walk_step (defScope s_Walk_step) := ⟨rfl, rfl, rfl, by decide +kernel, rfl, by decide +kernel, by decide +kernel⟩
theorem has_step {C : Addr} (D : DfM K C "step" "Walk.step" s_Walk_step ps_Walk_step) (T : Txt mg) (W : WkC K C) : HasM P w K mg base C 1 "step" ps_Walk_step (spStep K C) := HasM.mk' D fun f fd F => by
  refine F.ok sc_Walk_step (fun vs H Q E h => ?_) (fun cdv A outer s H vs Q E hr h => ?_)
  · obtain ⟨p, sd, cl, st, n, b, e, rfl, _⟩ := h
    rfl
  · obtain ⟨p, sd, cl, st, n, b, e, rfl, hw, hn, hS, hf, q⟩ := h
    refine ⟨_, (pss_one (ps_match (pv 1) (pcs_word sc_Walk_step.nd rfl (op_eqDK (K := K) hr.units) (.skip (.skip .nil)) (pss_one (ps_fldaug (pv 0) pe_int in_add))
(pcs_word sc_Walk_step.nd rfl (op_eqDK (K := K) hr.units) (.skip .nil) (pss_one (ps_fldaug (pv 0) pe_int in_add))
(pcs_word sc_Walk_step.nd rfl (op_eqDK (K := K) hr.units) (.name (i := 2) rfl rfl .nil) (pss_one (ps_dput (hu_of hr) (pe_fld (pv 0) rfl) (pv 2) pe_int rfl))
(pcs_word sc_Walk_step.nd rfl (op_eqDK (K := K) hr.units) (.name (i := 2) rfl rfl (.name (i := 3) rfl rfl .nil)) (pss_one (ps_dput (hu_of hr) (pe_fld (pv 0) rfl) (pv 2) (pv 3) rfl))
(pcs_word sc_Walk_step.nd rfl (op_eqDK (K := K) hr.units) (.name (i := 2) rfl rfl .nil) (pss_one (ps_expr (pe_bm PySem.F.plainAttrs_list PySem.F.slot_list_append PySem.F.type_list_append mt_append (pe_fld (pv 0) rfl) (pa_cons (pe_dget (hu_of hr) (pe_fld (pv 0) rfl) (pv 2) (fun _ _ => rfl)) pa_nil))))
(pcs_word sc_Walk_step.nd rfl (op_eqDK (K := K) hr.units) (.name (i := 2) rfl rfl (.name (i := 4) rfl rfl .nil)) (pss_one (ps_dput (hu_of hr) (pe_fld (pv 0) rfl) (pv 2) (pe_ix (ix_listK (K := K)) (pe_fld (pv 0) rfl) (pv 4) (fun _ _ => rfl)) rfl))
pcs_nil)))))))), ?_⟩
    have ok : ∀ w ∈ WD, PyData.strOk w = true := by decide +kernel
    refine w_match ?_
    walk_at "w"
    obtain ⟨dx, ho⟩ := id hw.ob
    cases e with
    | put k v =>
      refine c_yes hS rfl (ok _ (by simp)) ?_
      refine WK.w_fldaug ?_
      walk_at "w"
      refine ⟨p, C, dx, _, _, rfl, ho, W.cl, W.nT, wF_total, ?_⟩
      walk_at "w"
      refine ⟨_, _, rfl, rfl, dx, _, ho, by simp, ?_⟩
      rw [wF_put]
      obtain ⟨w1, g1⟩ := hw.p_total (st.many + 1) ho
      exact q _ g1 w1
    | drop k =>
      refine c_skip hS (by simp [Ev.vs]) (c_yes hS rfl (ok _ (by simp)) ?_)
      refine WK.w_fldaug ?_
      walk_at "w"
      refine ⟨p, C, dx, _, _, rfl, ho, W.cl, W.nT, wF_total, ?_⟩
      walk_at "w"
      refine ⟨_, _, rfl, rfl, dx, _, ho, by simp, ?_⟩
      rw [wF_put]
      obtain ⟨w1, g1⟩ := hw.p_total (st.many + 1) ho
      exact q _ g1 w1
    | join r =>
      refine c_skip hS (by simp [Ev.vs]) (c_not hS (ok _ (by simp)) (ok _ (by simp)) (by decide +kernel) (c_yes hS rfl (ok _ (by simp)) ?_))
      walk_at "w"
      refine hw.seats W rfl ?_
      walk_at "w"
      obtain ⟨o, d, h2, g2⟩ := hw.p_seat hn r 0
      refine ⟨_, _, rfl, d, ?_⟩
      exact q _ g2 h2
    | read r u =>
      refine c_not hS (ok _ (by simp)) (ok _ (by simp)) (by decide +kernel) (c_skip hS (by simp [Ev.vs]) (c_skip hS (by simp [Ev.vs]) (c_yes hS rfl (ok _ (by simp)) ?_)))
      walk_at "w"
      refine hw.seats W rfl ?_
      walk_at "w"
      obtain ⟨o, d, h2, g2⟩ := hw.p_seat hn r u
      refine ⟨_, _, rfl, d, ?_⟩
      exact q _ g2 h2
    | save r =>
      refine c_skip hS (by simp [Ev.vs]) (c_not hS (ok _ (by simp)) (ok _ (by simp)) (by decide +kernel) (c_not hS (ok _ (by simp)) (ok _ (by simp)) (by decide +kernel) (c_skip hS (by simp [Ev.vs]) (c_yes hS rfl (ok _ (by simp)) ?_))))
      walk_at "w"
      refine hw.saved W rfl ?_
      refine ⟨.inl ⟨rfl, _, SqL.of hw.c⟩, ?_⟩
      walk_at "w"
      refine hw.seats W rfl ?_
      walk_at "w"
      obtain ⟨z, hz⟩ := hf
      have hg := hw.s.get r
      rw [hz] at hg
      refine ⟨_, _, rfl, hg, ?_⟩
      walk_at "w"
      have hcn := hw.cn
      refine ⟨cl, _, _, rfl, rfl, hw.c, WK.sz' (by rw [List.length_map]; omega), ?_⟩
      have g : Gr [cl] H (upd H cl (.lst (st.copies.map V.int ++ [.int z]))) := Gr.mutL hw.c (by simp)
      refine q _ (g.mono (by simp)) ⟨⟨dx, g.k1 ho hw.ne2⟩, (hw.s.gr g (by simpa using hw.ne3)).mono (by omega), ?_, ?_⟩
      · rw [upd_same]
        show _ = some (HO.lst (List.map V.int (st.copies ++ [(st.seats r).getD 0])))
        rw [hz, List.map_append]
        rfl
      · show (st.copies ++ [(st.seats r).getD 0]).length ≤ n + 1
        rw [List.length_append, List.length_singleton]
        omega
    | load r c =>
      refine c_not hS (ok _ (by simp)) (ok _ (by simp)) (by decide +kernel) (c_skip hS (by simp [Ev.vs]) (c_skip hS (by simp [Ev.vs]) (c_not hS (ok _ (by simp)) (ok _ (by simp)) (by decide +kernel) (c_skip hS (by simp [Ev.vs]) (c_yes hS rfl (ok _ (by simp)) ?_)))))
      walk_at "w"
      refine hw.saved W rfl ?_
      walk_at "w"
      obtain ⟨c0, c1⟩ := hf
      have e : st.copies[c.toNat]? = some (st.copies.getD c.toNat 0) := by
        rw [List.getD_eq_getElem?_getD, List.getElem?_eq_getElem (by omega)]
        rfl
      refine ⟨cl, _, c, .int (st.copies.getD c.toNat 0), rfl, rfl, SqL.of hw.c, WK.at_ofG (j := c.toNat) (by omega) (by rw [List.getElem?_map, e]; rfl), ?_⟩
      refine hw.seats W rfl ?_
      walk_at "w"
      obtain ⟨o, d, h2, g2⟩ := hw.p_seat hn r (st.copies.getD c.toNat 0)
      refine ⟨_, _, rfl, d, ?_⟩
      exact q _ g2 h2
    | wait =>
      refine c_skip hS (by simp [Ev.vs]) (c_skip hS (by simp [Ev.vs]) (c_skip hS (by simp [Ev.vs]) (c_skip hS (by simp [Ev.vs]) (c_skip hS (by simp [Ev.vs]) (c_skip hS (by simp [Ev.vs]) (c_nil ?_))))))
      walk_at "w"
      exact q _ (Gr.refl _ _) ⟨hw.ob, hw.s.mono (by omega), hw.c, Nat.le_succ_of_le hw.cn⟩

end
end PK
namespace PK
open PySem L2
section
variable {P : Program} {w : World} {K : PySem.W.Frag} {mg : Str → Option Value} {base : Heap}
/-- whether these data are events that can come one after another -/
def goB : WS → List PyData → Bool
  | _, [] => true
  | s, d :: ds => evB d && (fitsB s (evE d) && goB (s.step (evE d)) ds)
def ttB : PyData → Bool
  | .tuple ds => goB .nil ds
  | _ => false
theorem drop_cons {α : Type} {a : List α} {i : Nat} {x : α} (h : a[i]? = some x) : a.drop i = x :: a.drop (i + 1) := by
  obtain ⟨hi, e⟩ := List.getElem?_eq_some_iff.mp h
  rw [List.drop_eq_getElem_cons hi, e]
theorem dp_some {H : Hp} : ∀ {vs : List V} {ds : List PyData} {i : Nat} {v : V}, DpAll K H vs ds → vs[i]? = some v → ∃ d, ds[i]? = some d ∧ Dp K H v d := fun h e => dpAll_get h e
abbrev s_is_timetable : Stmt := topS 8
abbrev N_is_timetable : List Str := ["thing", "walk", "event"]
abbrev ps_is_timetable : List Str := ["thing"]
theorem sc_is_timetable : FnScope N_is_timetable ps_is_timetable (defScope s_is_timetable) := ⟨rfl, rfl, rfl, by decide +kernel, rfl, by decide +kernel, by decide +kernel⟩
theorem has_istt {C : Addr} (D : Df1 K mg "is_timetable" s_is_timetable ps_is_timetable) (T : Txt mg) (CL_Walk : Cls K C) (n : Nat) (hn : n ≤ 60) (G_is_event : Has P w K mg base 3 "is_event" ps_is_event (spAsk K evB (n + 1)))
    (I_Walk : HasI P w K mg base C 1 "Walk" ps_Walk___init__ (spInit C)) (G_Walk_fits : HasM P w K mg base C 1 "fits" ps_Walk_fits (spFits K C)) (G_Walk_step : HasM P w K mg base C 1 "step" ps_Walk_step (spStep K C)) :
    Has1 P w K mg base 4 "is_timetable" ps_is_timetable (spAsk K ttB (n + 2)) := Has1.mk' D fun f fd F => by
  refine F.ok sc_is_timetable (fun vs H Q E h => ?_) (fun cdv A outer s H vs Q E hr h => ?_)
  · obtain ⟨v, d, rfl, _⟩ := h
    rfl
  · obtain ⟨v, d, rfl, hv, hf, q⟩ := h
    refine ⟨_, (pss_cons (ps_if (pt_not (pt_val (pe_callB (call_isiK' (K := K)) (by rfl) T.m_isinstance (by decide +kernel) (pa_cons (pv 0) (pa_cons (pe_bltn (v := .ty "tuple") (by rfl) T.m_tuple (by decide +kernel) rfl) pa_nil)))))
  (pss_one (ps_ret pe_bl))
  pss_nil)
(pss_cons (ps_set (i := 1) sc_is_timetable.nd rfl (Or.inl rfl) (pe_makeH I_Walk (hr.mono (by decide)) (by rfl)))
(pss_cons (ps_for PassesOwn.never rfl (pi_tup (pv 0)) (pg_name (i := 2) sc_is_timetable.nd rfl (Or.inl rfl))
  (pss_cons (ps_if (PW.pt (pw_or (pt_not (pt_val (pe_callH G_is_event (hr.mono (by decide)) (by rfl) (pa_cons (pv 2) pa_nil)))) (pw_or1 (pt_not (pt_val (pe_methH (pv 1) G_Walk_fits CL_Walk (hr.mono (by decide)) (pa_cons (pv 2) pa_nil)))))))
    (pss_one (ps_ret pe_bl))
    pss_nil)
  (pss_one (ps_expr (pe_methH (pv 1) G_Walk_step CL_Walk (hr.mono (by decide)) (pa_cons (pv 2) pa_nil))))))
(pss_one (ps_ret pe_bl))))), ?_⟩
    walk_at "w"
    walk_at "i"
    have no : ∀ (H' : Hp), Gr [] H H' → ttB d = false → Q (.bl false) H' := fun H' g e => by
      have := q H' g
      rw [e] at this
      exact this
    cases d with
    | dict _ => exact (fine_dict hf.fine).elim
    | tuple ds =>
      cases hv with
      | tup hS hd =>
      rename_i a xs
      have hin := fb_in hf
      have hz : ds.length ≤ 1000 := hf.1
      refine w_isi (d := .tuple ds) (.tup hS hd) (b := true) (by walk_at "k") ?_
      walk_at "w"
      refine WK.w_ifN (by decide) ?_
      walk_at "w"
      intro p dx np nd nep
      have hp0 : (upd (upd H dx (.own p)) p (.ins C dx [])) p = some (.ins C dx []) := upd_same
      have g0 : Gr [] H (upd (upd H dx (.own p)) p (.ins C dx [])) := (Gr.new nd).trans (Gr.new (by rw [upd_ne (Ne.symm nep)]; exact np))
      refine ⟨p, dx, rfl, hp0, fun sd cl H1 ns nc g1 w1 => ⟨rfl, ?_⟩⟩
      generalize (upd (upd H dx (.own p)) p (.ins C dx [])) = H0 at *
      have g01 : Gr [] H H1 := g0.own g1 np
      have nsd : H sd = none := g0.live _ ns
      have ncl : H cl = none := g0.live _ nc
      walk_at "w"
      refine ⟨⟨xs, sqT_gr g01 hS⟩, ?_⟩
      refine lp_tup (xs := xs) (fun i σ' H' => ∃ st y2, σ' = [some (.ref a), some (.ref p), y2] ∧ Gr [] H H' ∧ WkAt C H' p sd cl st i ∧ goB .nil ds = goB st (ds.drop i))
        ⟨.nil, none, rfl, g01, w1, rfl⟩ (fun i σ' H' _ ⟨_, _, _, g, _⟩ => sqT_gr g hS) ?_ ?_
      · rintro i x _ H2 hi ⟨st, y2, rfl, g2, w2, e2⟩
        obtain ⟨d, hd1, hd2⟩ := dp_some hd hi
        have il : i < ds.length := (List.getElem?_eq_some_iff.mp hd1).1
        rw [drop_cons hd1] at e2
        walk_at "w"
        walk_at "i"
        walk_at "i"
        refine ⟨x, d, rfl, dp_gr g2 _ hd2, hin d (List.mem_of_getElem? hd1), fun H3 g3 => ?_⟩
        walk_at "w"
        have w3 := w2.keep g3 (by simp) (by simp) (by simp)
        cases e : evB d with
        | false =>
          refine WK.w_ifP rfl ?_
          walk_at "w"
          exact no _ (g2.trans g3) (by show goB .nil ds = false; rw [e2]; simp [goB, e])
        | true =>
          refine WK.w_ifN (by decide) ?_
          walk_at "w"
          obtain ⟨e4, nice⟩ := ev_is e
          rw [e4] at hd2
          obtain ⟨b, rfl, hb⟩ := dp_ev hd2
          obtain ⟨dx3, ho3⟩ := w3.ob
          refine ⟨_, rfl, p, dx3, _, rfl, ho3, wF_none, ?_⟩
          walk_at "w"
          refine ⟨p, sd, cl, st, i, .non, .non, b, evE d, rfl, w3, by omega, sqT_gr (g2.trans g3) hb, fun H4 g4 => ?_⟩
          walk_at "w"
          have w4 := w3.keep g4 (by simp) (by simp) (by simp)
          have g04 := (g2.trans g3).trans g4
          cases e5 : fitsB st (evE d) with
          | false =>
            refine WK.w_ifP rfl ?_
            walk_at "w"
            exact no _ g04 (by show goB .nil ds = false; rw [e2]; simp [goB, e5])
          | true =>
            refine WK.w_ifN (by decide) ?_
            walk_at "w"
            obtain ⟨dx4, ho4⟩ := w4.ob
            refine ⟨_, rfl, p, dx4, _, rfl, ho4, wF_none, ?_⟩
            walk_at "w"
            refine ⟨p, sd, cl, st, i, b, evE d, rfl, w4, by omega, sqT_gr g04 hb, fits_of nice e5, fun H5 g5 w5 => ?_⟩
            refine ⟨_, _, rfl, g04.sub (L := [p, sd, cl]) (g5.mono (by simp)) (by simp [np, nsd, ncl]), w5, ?_⟩
            rw [e2]
            simp [goB, e, e5]
      · rintro σ2 H2 ⟨st, y2, rfl, g2, w2, e2⟩
        walk_at "w"
        have hl : xs.length = ds.length := dpAll_len hd
        have q := q _ g2
        rw [show ttB (.tuple ds) = true from by
          show goB .nil ds = true
          rw [e2, hl, List.drop_length]
          rfl] at q
        exact q
    | int i => exact w_isi hv (b := false) (by walk_at "k") ⟨false, rfl, WK.w_ifP (by decide) (no _ (Gr.refl _ _) rfl)⟩
    | bool b => exact w_isi hv (b := false) (by walk_at "k") ⟨false, rfl, WK.w_ifP (by decide) (no _ (Gr.refl _ _) rfl)⟩
    | none => exact w_isi hv (b := false) (by walk_at "k") ⟨false, rfl, WK.w_ifP (by decide) (no _ (Gr.refl _ _) rfl)⟩
    | list _ => exact w_isi hv (b := false) (by walk_at "k") ⟨false, rfl, WK.w_ifP (by decide) (no _ (Gr.refl _ _) rfl)⟩
    | str _ => exact w_isi hv (b := false) (by walk_at "k") ⟨false, rfl, WK.w_ifP (by decide) (no _ (Gr.refl _ _) rfl)⟩

end
end PK
namespace PK
open PySem L2
section
variable {P : Program} {w : World} {K : PySem.W.Frag} {mg : Str → Option Value} {base : Heap}
def wJ : Str := "join"
def szB (w : Str) : Option Int := if w = "join" then some 1 else if w = "save" then some 1 else if w = "read" then some 2 else if w = "load" then some 2 else if w = "wait" then some 0 else none
abbrev szK : List (Key × V) := [(.inr "join", .int 1), (.inr "save", .int 1), (.inr "read", .int 2), (.inr "load", .int 2), (.inr "wait", .int 0)]
theorem szK_val (w : Str) : valV szK (.inr w) = (szB w).map V.int := by
  unfold szB
  by_cases h1 : w = "join"
  · rw [if_pos h1, h1]; exact valV_pos rfl
  · rw [if_neg h1, valV_neg (fun e => h1 (Sum.inr.inj e).symm)]
    by_cases h2 : w = "save"
    · rw [if_pos h2, h2]; exact valV_pos rfl
    · rw [if_neg h2, valV_neg (fun e => h2 (Sum.inr.inj e).symm)]
      by_cases h3 : w = "read"
      · rw [if_pos h3, h3]; exact valV_pos rfl
      · rw [if_neg h3, valV_neg (fun e => h3 (Sum.inr.inj e).symm)]
        by_cases h4 : w = "load"
        · rw [if_pos h4, h4]; exact valV_pos rfl
        · rw [if_neg h4, valV_neg (fun e => h4 (Sum.inr.inj e).symm)]
          by_cases h5 : w = "wait"
          · rw [if_pos h5, h5]; exact valV_pos rfl
          · rw [if_neg h5, valV_neg (fun e => h5 (Sum.inr.inj e).symm)]; rfl
theorem szK_merge : mergeK [] szK = szK := by decide +kernel
theorem ev_put (ds : List PyData) : evB (.tuple (.str "put" :: ds)) = match ds with | [x, y] => nameB x && plainB y | _ => false := by
  have e : ∀ u : Str, ¬ (("put" : Str) = u) → isW u (.str "put") = false := fun u h => by rw [isW_str]; exact decide_eq_false h
  match ds with
  | [] => exact e _ (by decide +kernel)
  | [x] => simp only [evB, e "drop" (by decide +kernel), e "join" (by decide +kernel), e "save" (by decide +kernel), Bool.false_eq_true, if_false]
  | [x, y] => simp only [evB, isW_str, decide_true, if_true]
  | x :: y :: z :: r => rfl
theorem ev_drop (ds : List PyData) : evB (.tuple (.str "drop" :: ds)) = match ds with | [x] => nameB x | _ => false := by
  have e : ∀ u : Str, ¬ (("drop" : Str) = u) → isW u (.str "drop") = false := fun u h => by rw [isW_str]; exact decide_eq_false h
  match ds with
  | [] => exact e _ (by decide +kernel)
  | [x] => simp only [evB, isW_str, decide_true, if_true]
  | [x, y] => simp only [evB, e "put" (by decide +kernel), e "read" (by decide +kernel), e "load" (by decide +kernel), Bool.false_eq_true, if_false]
  | x :: y :: z :: r => rfl
theorem ev_other {w : Str} (h1 : ¬ w = "put") (h2 : ¬ w = "drop") (ds : List PyData) : evB (.tuple (.str w :: ds)) = match szB w with | some k => decide ((ds.length : Int) = k) && ds.all countB | none => false := by
  have n1 : ¬ (("save" : Str) = "join") := by decide +kernel
  have n2 : ¬ (("read" : Str) = "join") := by decide +kernel
  have n3 : ¬ (("read" : Str) = "save") := by decide +kernel
  have n4 : ¬ (("load" : Str) = "join") := by decide +kernel
  have n5 : ¬ (("load" : Str) = "save") := by decide +kernel
  have n6 : ¬ (("load" : Str) = "read") := by decide +kernel
  have n7 : ¬ (("wait" : Str) = "join") := by decide +kernel
  have n8 : ¬ (("wait" : Str) = "save") := by decide +kernel
  have n9 : ¬ (("wait" : Str) = "read") := by decide +kernel
  have n0 : ¬ (("wait" : Str) = "load") := by decide +kernel
  unfold szB
  by_cases j1 : w = "join"
  · subst j1
    match ds with
    | [] => simp [evB, isW_str, n7, Ne.symm (a := ("wait" : Str)) n7]
    | [x] => simp [evB, isW_str, h2]
    | [x, y] => simp [evB, isW_str, h1, Ne.symm (a := ("read" : Str)) n2, Ne.symm (a := ("load" : Str)) n4]
    | x :: y :: z :: r => 
      have : ¬ ((((x :: y :: z :: r).length : Nat) : Int) = 1) := by simp only [List.length_cons]; omega
      rw [if_pos rfl]
      show false = (decide _ && _)
      rw [decide_eq_false this]; rfl
  · rw [if_neg j1]
    by_cases j2 : w = "save"
    · subst j2
      match ds with
      | [] => simp [evB, isW_str, Ne.symm (a := ("wait" : Str)) n8]
      | [x] => simp [evB, isW_str, h2, j1]
      | [x, y] => simp [evB, isW_str, h1, Ne.symm (a := ("read" : Str)) n3, Ne.symm (a := ("load" : Str)) n5]
      | x :: y :: z :: r => 
        have : ¬ ((((x :: y :: z :: r).length : Nat) : Int) = 1) := by simp only [List.length_cons]; omega
        rw [if_pos rfl]
        show false = (decide _ && _)
        rw [decide_eq_false this]; rfl
    · rw [if_neg j2]
      by_cases j3 : w = "read"
      · subst j3
        match ds with
        | [] => simp [evB, isW_str, Ne.symm (a := ("wait" : Str)) n9]
        | [x] => simp [evB, isW_str, h2, j1, j2]
        | [x, y] => simp [evB, isW_str, h1]
        | x :: y :: z :: r => 
          have : ¬ ((((x :: y :: z :: r).length : Nat) : Int) = 2) := by simp only [List.length_cons]; omega
          rw [if_pos rfl]
          show false = (decide _ && _)
          rw [decide_eq_false this]; rfl
      · rw [if_neg j3]
        by_cases j4 : w = "load"
        · subst j4
          match ds with
          | [] => simp [evB, isW_str, Ne.symm (a := ("wait" : Str)) n0]
          | [x] => simp [evB, isW_str, h2, j1, j2]
          | [x, y] => simp [evB, isW_str, h1, j3]
          | x :: y :: z :: r => 
            have : ¬ ((((x :: y :: z :: r).length : Nat) : Int) = 2) := by simp only [List.length_cons]; omega
            rw [if_pos rfl]
            show false = (decide _ && _)
            rw [decide_eq_false this]; rfl
        · rw [if_neg j4]
          by_cases j5 : w = "wait"
          · subst j5
            match ds with
            | [] => simp [evB, isW_str]
            | [x] => simp [evB, isW_str, h2, j1, j2]
            | [x, y] => simp [evB, isW_str, h1, j3, j4]
            | x :: y :: z :: r => 
              have : ¬ ((((x :: y :: z :: r).length : Nat) : Int) = 0) := by simp only [List.length_cons]; omega
              rw [if_pos rfl]
              show false = (decide _ && _)
              rw [decide_eq_false this]; rfl
          · rw [if_neg j5]
            match ds with
            | [] => simp [evB, isW_str, j5]
            | [x] => simp [evB, isW_str, h2, j1, j2]
            | [x, y] => simp [evB, isW_str, h1, j3, j4]
            | x :: y :: z :: r => rfl
theorem cut1 (x : V) (ys : List V) : cutV (x :: ys) (some 1) none = ys := by
  have e : HT.sIx (x :: ys).length 0 (some 1) = 1 := by
    rw [show (some (1 : Int)) = some ((1 : Nat) : Int) from rfl, HT.sIx_nat]
    simp only [List.length_cons]
    omega
  unfold cutV
  rw [e, HT.sIx_none, List.drop_one, List.tail_cons]
  exact List.take_of_length_le (by simp)
theorem w_eqTup0 {H : Hp} {Q : VK} {a p : Addr} {xs : List V} {ds : List PyData} {n : Nat} (h : SqT K H a xs) (hd : DpAll K H xs ds) (hf : Fine n (.tuple ds)) (l : n ≤ 64) (he : H p = some (.tup [])) (k : Q (.bl ds.isEmpty) H) : rEqD K (.ref a) (.ref p) H Q :=
  ⟨.tuple ds, .tuple [], .tup h hd, .tup (SqT.of he) .nil, hf.sh.shaped l, (ShA.nil (n := 0)).tuple.shaped (by omega), by
    have e : PyData.eqv (.tuple ds) (.tuple []) = ds.isEmpty := by cases ds <;> simp [PyData.eqv, PyData.eqvAll]
    rw [e]
    exact k⟩

theorem cut_no {x : V} {ys : List V} (z : HT.sIx (x :: ys).length 0 (some 1) = 0 ∧ HT.sIx (x :: ys).length (x :: ys).length none = (x :: ys).length) : False := by
  have e := z.1
  rw [show (some (1 : Int)) = some ((1 : Nat) : Int) from rfl, HT.sIx_nat] at e
  simp only [List.length_cons] at e
  omega
theorem one_of {H : Hp} {ys : List V} {ds : List PyData} (h : DpAll K H ys ds) (l : (ys.length : Int) = 1) : ∃ x d, ys = [x] ∧ ds = [d] ∧ Dp K H x d := by
  cases h with
  | nil => simp at l
  | cons k1 h => cases h with
    | nil => exact ⟨_, _, rfl, rfl, k1⟩
    | cons k2 h => simp only [List.length_cons] at l; omega
theorem two_of {H : Hp} {ys : List V} {ds : List PyData} (h : DpAll K H ys ds) (l : (ys.length : Int) = 2) : ∃ x y d e, ys = [x, y] ∧ ds = [d, e] ∧ Dp K H x d ∧ Dp K H y e := by
  cases h with
  | nil => simp at l
  | cons k1 h => cases h with
    | nil => simp at l
    | cons k2 h => cases h with
      | nil => exact ⟨_, _, _, _, rfl, rfl, k1, k2⟩
      | cons k3 h => simp only [List.length_cons] at l; omega
abbrev s_law_is_row : Stmt := topS 24
abbrev N_law_is_row : List Str := ["_law_matter", "_law_word", "_law_rest", "_law_sizes_so", "_law_part"]
abbrev ps_law_is_row : List Str := ["_law_matter"]
theorem sc_law_is_row : FnScope N_law_is_row ps_law_is_row (defScope s_law_is_row) := ⟨rfl, rfl, rfl, by decide +kernel, rfl, by decide +kernel, by decide +kernel⟩
theorem has_row (D : Df K mg "_law_is_row" s_law_is_row ps_law_is_row) (T : Txt mg) (n : Nat) (hn : n ≤ 60) (G_law_is_name : Has P w K mg base 1 "_law_is_name" ps_law_is_name (spName K n)) (G_law_is_plain : Has P w K mg base 1 "_law_is_plain" ps_law_is_plain (spTell K plainB n)) :
    Has P w K mg base 2 "_law_is_row" ps_law_is_row (spAsk K evB (n + 1)) := Has.mk' D fun f fd F => by
  refine F.ok sc_law_is_row (fun vs H Q E h => ?_) (fun cdv A outer s H vs Q E hr h => ?_)
  · obtain ⟨v, d, rfl, _⟩ := h
    rfl
  · obtain ⟨v, d, rfl, hv, hf, q⟩ := h
    refine ⟨_, (pss_cons (ps_if (PW.pt (pw_or (pt_not (pt_val (pe_callB (call_isiK' (K := K)) (by rfl) T.m_isinstance (by decide +kernel) (pa_cons (pv 0) (pa_cons (pe_bltn (v := .ty "tuple") (by rfl) T.m_tuple (by decide +kernel) rfl) pa_nil))))) (pw_or (pt_cmpR (op_eqDK (K := K) hr.units) (pv 0) (pe_tup pa_nil) (nomark _)) (pw_or1 (pt_not (pt_val (pe_callB (call_isiK' (K := K)) (by rfl) T.m_isinstance (by decide +kernel) (pa_cons (pe_ix (ix_tupK (K := K)) (pv 0) pe_int (fun _ _ => rfl)) (pa_cons (pe_bltn (v := .ty "str") (by rfl) T.m_str (by decide +kernel) rfl) pa_nil)))))))))
  (pss_one (ps_ret pe_bl))
  pss_nil)
(pss_cons (ps_par (i := 1) (j := 2) (by rfl) sc_law_is_row.nd rfl rfl (by decide) rfl rfl (pa_cons (pe_ix (ix_tupK (K := K)) (pv 0) pe_int (fun _ _ => rfl)) (pa_cons (pe_slice (sl_tupAK (K := K)) (pv 0) (po_some pe_int) po_none) pa_nil)) (by rfl))
(pss_cons (ps_if (pt_cmpR op_eq (pv 1) pe_str (nomark _))
  (pss_one (ps_ret (pe_and (pe_cmpR op_eq (pe_callB (call_len_seqK (K := K)) (by rfl) T.m_len (by decide +kernel) (pa_cons (pv 2) pa_nil)) pe_int (nomark _)) (pe_and (pe_callH G_law_is_name (hr.mono (by decide)) (by rfl) (pa_cons (pe_ix (ix_tupK (K := K)) (pv 2) pe_int (fun _ _ => rfl)) pa_nil)) (pe_one (pe_callH G_law_is_plain (hr.mono (by decide)) (by rfl) (pa_cons (pe_ix (ix_tupK (K := K)) (pv 2) pe_int (fun _ _ => rfl)) pa_nil)))))))
  pss_nil)
(pss_cons (ps_if (pt_cmpR op_eq (pv 1) pe_str (nomark _))
  (pss_one (ps_ret (pe_and (pe_cmpR op_eq (pe_callB (call_len_seqK (K := K)) (by rfl) T.m_len (by decide +kernel) (pa_cons (pv 2) pa_nil)) pe_int (nomark _)) (pe_one (pe_callH G_law_is_name (hr.mono (by decide)) (by rfl) (pa_cons (pe_ix (ix_tupK (K := K)) (pv 2) pe_int (fun _ _ => rfl)) pa_nil))))))
  pss_nil)
(pss_cons (ps_set (i := 3) sc_law_is_row.nd rfl (Or.inl rfl) (pe_disp (pps_cons pe_str pe_int (pps_cons pe_str pe_int (pps_cons pe_str pe_int (pps_cons pe_str pe_int (pps_cons pe_str pe_int pps_nil))))) (by rfl) (by rfl) (fun z => by cases z) (by decide)))
(pss_cons (ps_if (pt_cmpR op_ne (pe_dget1 (hu_of hr) (pv 3) (pv 1) ⟨rfl, by rfl, by rfl, by rfl⟩) (pe_callB (call_len_seqK (K := K)) (by rfl) T.m_len (by decide +kernel) (pa_cons (pv 2) pa_nil)) (nomark _))
  (pss_one (ps_ret pe_bl))
  pss_nil)
(pss_one (ps_ret (pe_callB (cr_allK (K := K) rfl) (by rfl) T.m_all (by decide +kernel) (pa_cons (pe_lc (own := [("_law_part", 4)]) (g := gName 4)  rfl sc_law_is_row.nd (pi_tup (pv 2)) (blkOk_by (own := [("_law_part", 4)]) (N := N_law_is_row) (sc := defScope s_law_is_row) (by decide +kernel)) (fun _ _ _ _ _ => pg_name (i := 4) sc_law_is_row.nd rfl (Or.inl rfl)) (fun _ _ _ _ _ => pts_nil) (fun _ _ _ _ _ => (pe_and (pe_callH G_law_is_plain (hr.mono (by decide)) (by rfl) (pa_cons (pv 4) pa_nil)) (pe_one (pe_cmpR op_ge (pv 4) pe_int (nomark _)))))) pa_nil)))))))))), ?_⟩
    walk_at "w"
    walk_at "i"
    walk_at "i"
    have no : ∀ (H' : Hp), Gr [] H H' → evB d = false → Q (.bl false) H' := fun H' g e => by
      have := q H' g
      rw [e] at this
      exact this
    cases d with
    | dict _ => exact (fine_dict hf.fine).elim
    | tuple ds =>
      cases hv with
      | tup hS hd =>
      rename_i a xs
      have hin := fb_in hf
      refine w_isi (d := .tuple ds) (.tup hS hd) (b := true) (by walk_at "k") ?_
      walk_at "w"
      refine WK.w_ifN (by decide) ?_
      walk_at "i"
      refine ⟨WK.sz, fun t nt => ?_⟩
      walk_at "w"
      have g1 : Gr [] H (upd H t (.tup [])) := Gr.new nt
      refine w_eqTup0 (sqT_gr g1 hS) (dpAll_gr g1 _ hd) hf.fine (by omega) upd_same ?_
      walk_at "w"
      generalize (upd H t (.tup [])) = H1 at *
      cases hd with
      | nil =>
        refine WK.w_ifP rfl ?_
        walk_at "w"
        exact no _ g1 rfl
      | cons h0 hd =>
        rename_i x ys c ds
        refine WK.w_ifN (by simp) ?_
        walk_at "w"
        have hS1 := sqT_gr g1 hS
        refine w_ixS hS1 (atI_nat (j := 0) rfl) ?_
        walk_at "w"
        have h01 := dp_gr g1 _ h0
        have cases_c : (∃ w, c = .str w) ∨ ∀ ds, evB (.tuple (c :: ds)) = false ∧ kitB (tyN c) "str" = some false := by
          cases c with
          | str w => exact .inl ⟨w, rfl⟩
          | dict _ => exact (fine_dict (hin _ List.mem_cons_self).fine).elim
          | _ =>
            refine .inr fun ds => ⟨?_, by walk_at "k"⟩
            match ds with
            | [] => rfl
            | [_] => rfl
            | [_, _] => rfl
            | _ :: _ :: _ :: _ => rfl
        rcases cases_c with ⟨w, rfl⟩ | cn
        · refine w_isi (d := .str w) h01 (b := true) (by walk_at "k") ?_
          walk_at "w"
          refine WK.w_ifN (by decide) ?_
          cases h0
          walk_at "w"
          refine w_ixS hS1 (atI_nat (j := 0) rfl) ?_
          walk_at "w"
          refine ⟨a, _, rfl, hS1, fun z => (cut_no z).elim, fun _ r nr => ?_⟩
          rw [cut1]
          walk_at "w"
          have g2 : Gr [] H1 (upd H1 r (.tup ys)) := Gr.new nr
          have hr2 : (upd H1 r (.tup ys)) r = some (.tup ys) := upd_same
          have g02 := g1.trans g2
          have hd2 := dpAll_gr g02 _ hd
          generalize (upd H1 r (.tup ys)) = H2 at *
          have hl : ys.length = ds.length := dpAll_len hd
          have hzz : ds.length + 1 ≤ 1000 := hf.1
          walk_at "i"
          refine WK.w_2 (fun hw => ?_) (fun hw => ?_)
          · subst hw
            walk_at "w"
            walk_at "i"
            refine w_lenT hr2 ?_
            walk_at "w"
            rw [ev_put] at q
            refine WK.w_2 (fun h2 => ?_) (fun h2 => ?_)
            · obtain ⟨x1, x2, d1, d2, rfl, rfl, k1, k2⟩ := two_of hd2 h2
              dsimp only at q
              walk_at "i"
              refine ⟨x1, d1, rfl, k1, (hin d1 (by simp)).fine, (hin d1 (by simp)).brief, fun H3 g3 => ?_⟩
              walk_at "w"
              have q := fun H4 g4 => q H4 (g02.trans (g3.trans g4))
              cases e : nameB d1 with
              | false =>
                refine WK.w_ifN (by decide) ?_
                rw [e] at q
                exact q _ (Gr.refl _ _)
              | true =>
                refine WK.w_ifP rfl ?_
                have hr3 := g3.tup _ _ hr2
                walk_at "w"
                refine ⟨x2, d2, rfl, dp_gr g3 _ k2, (hin d2 (by simp)).fine, fun H4 g4 => ?_⟩
                rw [e] at q
                exact q _ g4
            · have q := q _ g02
              match ds, hl, h2 with
              | [], _, _ => exact q
              | [_], _, _ => exact q
              | [_, _], hl, h2 => exact (h2 (by rw [hl]; rfl)).elim
              | _ :: _ :: _ :: _, _, _ => exact q
          · walk_at "w"
            walk_at "i"
            refine WK.w_2 (fun hu => ?_) (fun hu => ?_)
            · subst hu
              walk_at "w"
              walk_at "i"
              refine w_lenT hr2 ?_
              walk_at "w"
              rw [ev_drop] at q
              refine WK.w_2 (fun h2 => ?_) (fun h2 => ?_)
              · obtain ⟨x1, d1, rfl, rfl, k1⟩ := one_of hd2 h2
                dsimp only at q
                walk_at "w"
                refine ⟨x1, d1, rfl, k1, (hin d1 (by simp)).fine, (hin d1 (by simp)).brief, fun H3 g3 => ?_⟩
                exact q _ (g02.trans g3)
              · have q := q _ g02
                match ds, hl, h2 with
                | [], _, _ => exact q
                | [_], hl, h2 => exact (h2 (by rw [hl]; rfl)).elim
                | _ :: _ :: _, _, _ => exact q
            · rw [ev_other hw hu] at q
              walk_at "w"
              refine w_disp ?_
              intro m nm
              refine ⟨upd_same, szK, rfl, by simp, ?_⟩
              rw [szK_merge, upd_upd]
              have g3 : Gr [] H2 (upd H2 m (.dK szK)) := Gr.new nm
              have hm3 : (upd H2 m (.dK szK)) m = some (.dK szK) := upd_same
              have g03 := g02.trans g3
              have hr3 := g3.tup _ _ hr2
              have hd3 := dpAll_gr g3 _ hd2
              generalize (upd H2 m (.dK szK)) = H3 at *
              walk_at "w"
              walk_at "i"
              refine ⟨_, rfl, m, rfl, .inl ⟨_, .inl hm3⟩, ?_⟩
              walk_at "w"
              refine ⟨_, DGet.k (k := .inr w) hm3, ?_⟩
              rw [szK_val]
              walk_at "w"
              refine w_lenT hr3 ?_
              cases e : szB w with
              | none =>
                rw [e] at q
                refine ⟨rfl, ?_⟩
                walk_at "w"
                refine WK.w_ifP (by simp) ?_
                walk_at "w"
                exact q _ g03
              | some k =>
                rw [e] at q
                show rNe (.int k) (.int ys.length) _ _
                walk_at "w"
                refine WK.w_2n (fun h2 => ?_) (fun h2 => ?_)
                · walk_at "w"
                  have q := q _ g03
                  dsimp only at q
                  rw [decide_eq_false (by rw [← hl]; exact fun z => h2 z.symm)] at q
                  exact q
                · walk_at "w"
                  dsimp only at q
                  rw [decide_eq_true (by rw [← hl]; exact h2.symm), Bool.true_and] at q
                  refine ⟨⟨_, SqT.of hr3⟩, ?_⟩
                  refine lc_go (walk_tup (K := K) (a := r) (xs := ys)) (fun Dn j acc H' => Gr [] H3 H' ∧ acc = ((ds.take j).map countB).map V.bl) (fun Dn nD => ⟨Gr.new nD, rfl⟩) (fun Dn j acc H' _ ⟨g, _⟩ => SqT.of (g.tup _ _ hr3)) ?_ ?_
                  · rintro Dn j acc x H4 H5 nD hj hD la ⟨g4, rfl⟩ ⟨rfl, hx⟩
                    obtain ⟨d, hd1, hd2'⟩ := dpAll_get hd3 hx
                    have jl : j < 1000 := by omega
                    have ff := hin d (by simp [List.mem_of_getElem? hd1])
                    have tk : ds.take (j + 1) = ds.take j ++ [d] := take_snoc hd1
                    walk_at "w"
                    refine ⟨rfl, ?_⟩
                    walk_at "w"
                    refine WK.w_ifP rfl ?_
                    walk_at "i"
                    refine ⟨x, d, rfl, dp_gr g4 _ hd2', ff.fine, fun H6 g6 => ?_⟩
                    walk_at "w"
                    have hD6 := g6.k0 hD
                    have fin : ∀ b, b = countB d → LcY (fun Dn j acc H' => Gr [] H3 H' ∧ acc = ((ds.take j).map countB).map V.bl) Dn j (.bl b) H6 := fun b eb => by
                      refine lc_yes hD6 la (by omega) ⟨(g4.trans g6).own (Gr.mutL hD6 (by simp)) nD, ?_⟩
                      rw [tk, List.map_append, List.map_append, eb]
                      rfl
                    cases d with
                    | int i =>
                      refine WK.w_ifP rfl ?_
                      cases hd2'
                      walk_at "w"
                      exact fin _ rfl
                    | _ => exact WK.w_ifN (by simp [plainB]) (fin _ rfl)
                  · rintro Dn acc H4 nD hD la ⟨g4, rfl⟩
                    rw [hl, List.take_length] at hD
                    refine ⟨Dn, _, rfl, SqL.of hD, ?_⟩
                    have e2 : (ds.map countB).all id = ds.all countB := by rw [List.all_map]; rfl
                    rw [e2]
                    exact q _ (g03.trans g4)
        · refine w_isi (d := c) h01 (b := false) (cn []).2 ?_
          walk_at "w"
          refine WK.w_ifP rfl ?_
          walk_at "w"
          exact no _ g1 (cn ds).1
    | int i => exact w_isi hv (b := false) (by walk_at "k") ⟨false, rfl, WK.w_ifP (by decide) (no _ (Gr.refl _ _) rfl)⟩
    | bool b => exact w_isi hv (b := false) (by walk_at "k") ⟨false, rfl, WK.w_ifP (by decide) (no _ (Gr.refl _ _) rfl)⟩
    | none => exact w_isi hv (b := false) (by walk_at "k") ⟨false, rfl, WK.w_ifP (by decide) (no _ (Gr.refl _ _) rfl)⟩
    | list _ => exact w_isi hv (b := false) (by walk_at "k") ⟨false, rfl, WK.w_ifP (by decide) (no _ (Gr.refl _ _) rfl)⟩
    | str _ => exact w_isi hv (b := false) (by walk_at "k") ⟨false, rfl, WK.w_ifP (by decide) (no _ (Gr.refl _ _) rfl)⟩

end
end PK
namespace PK
open PySem L2
section
variable {P : Program} {w : World} {K : PySem.W.Frag} {mg : Str → Option Value} {base : Heap}
def wkB : WS → List PyData → Bool
  | _, [] => true
  | s, d :: ds => fitsB s (evE d) && wkB (s.step (evE d)) ds
theorem goB_split : ∀ {s : WS} {ds : List PyData}, goB s ds = (ds.all evB && wkB s ds)
  | _, [] => rfl
  | s, d :: ds => by
    rw [goB, wkB, List.all_cons, goB_split]
    cases evB d <;> cases fitsB s (evE d) <;> cases ds.all evB <;> rfl
abbrev s_law_is_whole : Stmt := topS 25
abbrev N_law_is_whole : List Str := ["_law_matter", "_law_w", "_law_row"]
abbrev ps_law_is_whole : List Str := ["_law_matter"]
theorem sc_law_is_whole : FnScope N_law_is_whole ps_law_is_whole (defScope s_law_is_whole) := ⟨rfl, rfl, rfl, by decide +kernel, rfl, by decide +kernel, by decide +kernel⟩
theorem has_whole (D : Df K mg "_law_is_whole" s_law_is_whole ps_law_is_whole) (T : Txt mg) (n : Nat) (hn : n ≤ 60) (G_law_is_row : Has P w K mg base 2 "_law_is_row" ps_law_is_row (spAsk K evB (n + 1))) (G_law_moved : Has P w K mg base 1 "_law_moved" ps_law_moved (spMovedS K)) :
    Has P w K mg base 3 "_law_is_whole" ps_law_is_whole (spAsk K ttB (n + 2)) := Has.mk' D fun f fd F => by
  refine F.ok sc_law_is_whole (fun vs H Q E h => ?_) (fun cdv A outer s H vs Q E hr h => ?_)
  · obtain ⟨v, d, rfl, _⟩ := h
    rfl
  · obtain ⟨v, d, rfl, hv, hf, q⟩ := h
    refine ⟨_, (pss_cons (ps_if (PW.pt (pw_or (pt_not (pt_val (pe_callB (call_isiK' (K := K)) (by rfl) T.m_isinstance (by decide +kernel) (pa_cons (pv 0) (pa_cons (pe_bltn (v := .ty "tuple") (by rfl) T.m_tuple (by decide +kernel) rfl) pa_nil))))) (pw_or1 (pt_not (pt_val (pe_callB (cr_allK (K := K) rfl) (by rfl) T.m_all (by decide +kernel) (pa_cons (pe_lc (own := [("_law_row", 2)]) (g := gName 2)  rfl sc_law_is_whole.nd (pi_tup (pv 0)) (blkOk_by (own := [("_law_row", 2)]) (N := N_law_is_whole) (sc := defScope s_law_is_whole) (by decide +kernel)) (fun _ _ _ _ _ => pg_name (i := 2) sc_law_is_whole.nd rfl (Or.inl rfl)) (fun _ _ _ _ _ => pts_nil) (fun _ _ _ _ _ => (pe_callH G_law_is_row (hr.mono (by decide)) (by rfl) (pa_cons (pv 2) pa_nil)))) pa_nil)))))))
  (pss_one (ps_ret pe_bl))
  pss_nil)
(pss_cons (ps_set (i := 1) sc_law_is_whole.nd rfl (Or.inl rfl) (pe_disp (pps_cons pe_str pe_dnewK (pps_cons pe_str (pe_lst pa_nil) (pps_cons pe_str pe_int pps_nil))) (by rfl) (by rfl) (fun z => by cases z) (by decide)))
(pss_cons (ps_for PassesOwn.never rfl (pi_tup (pv 0)) (pg_name (i := 2) sc_law_is_whole.nd rfl (Or.inl rfl))
  (pss_cons (ps_if (PW.pt (pw_and (pt_cmpR (op_in_seqK (K := K)) (pe_ix (ix_tupK (K := K)) (pv 2) pe_int (fun _ _ => rfl)) (pe_tup (pa_cons pe_str (pa_cons pe_str pa_nil))) (by rfl)) (pw_and1 (pt_cmp (pc_dnotin (hu_of hr) (pe_ix (ix_tupK (K := K)) (pv 2) pe_int (fun _ _ => rfl)) (pe_dget (hu_of hr) (pv 1) pe_str (fun _ _ => rfl)))))))
    (pss_one (ps_ret pe_bl))
    pss_nil)
  (pss_cons (ps_if (PW.pt (pw_and (pt_cmpR op_eq (pe_ix (ix_tupK (K := K)) (pv 2) pe_int (fun _ _ => rfl)) pe_str (nomark _)) (pw_and1 (pt_not (pt_chain op_lt op_le (pe_dget (hu_of hr) (pe_dget (hu_of hr) (pv 1) pe_str (fun _ _ => rfl)) (pe_ix (ix_tupK (K := K)) (pv 2) pe_int (fun _ _ => rfl)) (fun _ _ => rfl)) (pe_ix (ix_tupK (K := K)) (pv 2) pe_int (fun _ _ => rfl)) (pe_dget (hu_of hr) (pv 1) pe_str (fun _ _ => rfl)))))))
    (pss_one (ps_ret pe_bl))
    pss_nil)
  (pss_cons (ps_if (PW.pt (pw_and (pt_cmpR op_eq (pe_ix (ix_tupK (K := K)) (pv 2) pe_int (fun _ _ => rfl)) pe_str (nomark _)) (pw_and1 (pt_cmpR op_ge (pe_ix (ix_tupK (K := K)) (pv 2) pe_int (fun _ _ => rfl)) (pe_callB (call_len_seqK (K := K)) (by rfl) T.m_len (by decide +kernel) (pa_cons (pe_dget (hu_of hr) (pv 1) pe_str (fun _ _ => rfl)) pa_nil)) (nomark _)))))
    (pss_one (ps_ret pe_bl))
    pss_nil)
  (pss_one (ps_expr (pe_callH G_law_moved (hr.mono (by decide)) (by rfl) (pa_cons (pv 1) (pa_cons (pv 2) pa_nil)))))))))
(pss_one (ps_ret pe_bl))))), ?_⟩
    walk_at "w"
    walk_at "i"
    walk_at "i"
    have no : ∀ (H' : Hp), Gr [] H H' → ttB d = false → Q (.bl false) H' := fun H' g e => by
      have := q H' g
      rw [e] at this
      exact this
    cases d with
    | dict _ => exact (fine_dict hf.fine).elim
    | tuple ds =>
      cases hv with
      | tup hS hd =>
      rename_i a xs
      have hin := fb_in hf
      have hz : ds.length ≤ 1000 := hf.1
      have hl : xs.length = ds.length := dpAll_len hd
      refine w_isi (d := .tuple ds) (.tup hS hd) (b := true) (by walk_at "k") ?_
      walk_at "w"
      refine WK.w_ifN (by decide) ?_
      walk_at "w"
      refine ⟨⟨xs, hS⟩, ?_⟩
      refine lc_go (walk_tup (K := K) (a := a) (xs := xs)) (fun Dn j acc H' => Gr [] H H' ∧ acc = ((ds.take j).map evB).map V.bl) (fun Dn nD => ⟨Gr.new nD, rfl⟩) (fun Dn j acc H' _ ⟨g, _⟩ => sqT_gr g hS) ?_ ?_
      · rintro Dn j acc x H4 H5 nD hj hD la ⟨g4, rfl⟩ ⟨rfl, hx⟩
        obtain ⟨d, hd1, hd2⟩ := dpAll_get hd hx
        have tk : ds.take (j + 1) = ds.take j ++ [d] := take_snoc hd1
        walk_at "w"
        refine ⟨rfl, ?_⟩
        walk_at "w"
        refine WK.w_ifP rfl ?_
        walk_at "w"
        refine ⟨x, d, rfl, dp_gr g4 _ hd2, hin d (List.mem_of_getElem? hd1), fun H6 g6 => ?_⟩
        have hD6 := g6.k0 hD
        refine lc_yes hD6 la (by omega) ⟨(g4.trans g6).own (Gr.mutL hD6 (by simp)) nD, ?_⟩
        rw [tk, List.map_append, List.map_append]
        rfl
      · rintro Dn acc H1 nD hD la ⟨g1, rfl⟩
        rw [hl, List.take_length] at hD
        walk_at "w"
        refine ⟨Dn, _, rfl, SqL.of hD, ?_⟩
        have e2 : (ds.map evB).all id = ds.all evB := by rw [List.all_map]; rfl
        rw [e2]
        walk_at "w"
        cases ea : ds.all evB with
        | false =>
          refine WK.w_ifP rfl ?_
          walk_at "w"
          exact no _ g1 (by show goB .nil ds = false; rw [goB_split, ea]; rfl)
        | true =>
          refine WK.w_ifN (by decide) ?_
          walk_at "w"
          refine w_wdict fun w sd cl H2 nw ns nc g2 w2 => ?_
          have g02 := g1.trans g2
          have nw0 : H w = none := g1.live _ nw
          have ns0 : H sd = none := g1.live _ ns
          have nc0 : H cl = none := g1.live _ nc
          walk_at "w"
          refine ⟨⟨xs, sqT_gr g02 hS⟩, ?_⟩
          refine lp_tup (xs := xs) (fun i σ' H' => ∃ st y2, σ' = [some (.ref a), some (.ref w), y2] ∧ Gr [] H H' ∧ WAt H' w sd cl st i ∧ wkB .nil ds = wkB st (ds.drop i))
            ⟨.nil, none, rfl, g02, w2, rfl⟩ (fun i σ' H' _ ⟨_, _, _, g, _⟩ => sqT_gr g hS) ?_ ?_
          · rintro i x _ H3 hi ⟨st, y2, rfl, g3, w3, e3⟩
            obtain ⟨d, hd1, hd2⟩ := dpAll_get hd hi
            have il : i < ds.length := (List.getElem?_eq_some_iff.mp hd1).1
            rw [drop_cons hd1] at e3
            have e4 : evB d = true := List.all_eq_true.mp ea d (List.mem_of_getElem? hd1)
            obtain ⟨e5, nice⟩ := ev_is e4
            rw [e5] at hd2
            obtain ⟨b, rfl, hb⟩ := dp_ev hd2
            have no2 : ∀ H', Gr [] H H' → fitsB st (evE d) = false → Q (.bl false) H' := fun H' g e => no _ g (by
              show goB .nil ds = false
              rw [goB_split, e3, wkB, e]
              simp)
            have yes2 : ∀ H', Gr [] H H' → WAt H' w sd cl st i → fitsB st (evE d) = true → spMovedS K [.ref w, .ref b] H' (fun _ H' => ∃ st y2, [some (V.ref a), some (.ref w), some (.ref b)] = [some (.ref a), some (.ref w), y2] ∧ Gr [] H H' ∧ WAt H' w sd cl st (i + 1) ∧ wkB .nil ds = wkB st (ds.drop (i + 1))) E0 := fun H' g hw e => by
              refine ⟨w, sd, cl, st, i, b, evE d, rfl, hw, by omega, sqT_gr g hb, fits_of nice e, fun H5 g5 w5 => ?_⟩
              refine ⟨_, _, rfl, g.sub (L := [w, sd, cl]) (g5.mono (by simp)) (by simp [nw0, ns0, nc0]), w5, ?_⟩
              rw [e3, wkB, e, Bool.true_and]
            have hb3 := sqT_gr g3 hb
            walk_at "w"
            walk_at "i"
            walk_at "i"
            refine w_ixS hb3 (evE d).at0 ?_
            walk_at "w"
            refine ⟨WK.sz, fun t nt => ?_⟩
            refine WK.w_inT upd_same rfl rfl ?_
            walk_at "w"
            have g4 : Gr [] H3 (upd H3 t (.tup [.str "read", .str "save"])) := Gr.new nt
            have g04 := g3.trans g4
            have w4 := w3.keep g4 (by simp) (by simp) (by simp)
            have hb4 := sqT_gr g04 hb
            generalize (upd H3 t (.tup [.str "read", .str "save"])) = H4 at *
            generalize evE d = e at *
            cases e with
            | put k v =>
              dsimp only [Ev.word]
              refine WK.w_ifN (by decide +kernel) (WK.w_ifN (by decide) ?_)
              walk_at "w"
              walk_at "i"
              walk_at "i"
              refine w_ixS hb4 (Ev.at0 _) ?_
              dsimp only [Ev.word]
              walk_at "w"
              refine WK.w_ifN (by decide +kernel) (WK.w_ifN (by decide) ?_)
              walk_at "w"
              walk_at "i"
              walk_at "i"
              refine w_ixS hb4 (Ev.at0 _) ?_
              dsimp only [Ev.word]
              walk_at "w"
              refine WK.w_ifN (by decide +kernel) (WK.w_ifN (by decide) ?_)
              walk_at "w"
              exact yes2 _ g04 w4 rfl
            | drop k =>
              dsimp only [Ev.word]
              refine WK.w_ifN (by decide +kernel) (WK.w_ifN (by decide) ?_)
              walk_at "w"
              walk_at "i"
              walk_at "i"
              refine w_ixS hb4 (Ev.at0 _) ?_
              dsimp only [Ev.word]
              walk_at "w"
              refine WK.w_ifN (by decide +kernel) (WK.w_ifN (by decide) ?_)
              walk_at "w"
              walk_at "i"
              walk_at "i"
              refine w_ixS hb4 (Ev.at0 _) ?_
              dsimp only [Ev.word]
              walk_at "w"
              refine WK.w_ifN (by decide +kernel) (WK.w_ifN (by decide) ?_)
              walk_at "w"
              exact yes2 _ g04 w4 rfl
            | join r =>
              dsimp only [Ev.word]
              refine WK.w_ifN (by decide +kernel) (WK.w_ifN (by decide) ?_)
              walk_at "w"
              walk_at "i"
              walk_at "i"
              refine w_ixS hb4 (Ev.at0 _) ?_
              dsimp only [Ev.word]
              walk_at "w"
              refine WK.w_ifN (by decide +kernel) (WK.w_ifN (by decide) ?_)
              walk_at "w"
              walk_at "i"
              walk_at "i"
              refine w_ixS hb4 (Ev.at0 _) ?_
              dsimp only [Ev.word]
              walk_at "w"
              refine WK.w_ifN (by decide +kernel) (WK.w_ifN (by decide) ?_)
              walk_at "w"
              exact yes2 _ g04 w4 rfl
            | wait =>
              dsimp only [Ev.word]
              refine WK.w_ifN (by decide +kernel) (WK.w_ifN (by decide) ?_)
              walk_at "w"
              walk_at "i"
              walk_at "i"
              refine w_ixS hb4 (Ev.at0 _) ?_
              dsimp only [Ev.word]
              walk_at "w"
              refine WK.w_ifN (by decide +kernel) (WK.w_ifN (by decide) ?_)
              walk_at "w"
              walk_at "i"
              walk_at "i"
              refine w_ixS hb4 (Ev.at0 _) ?_
              dsimp only [Ev.word]
              walk_at "w"
              refine WK.w_ifN (by decide +kernel) (WK.w_ifN (by decide) ?_)
              walk_at "w"
              exact yes2 _ g04 w4 rfl
            | save r =>
              dsimp only [Ev.word]
              refine WK.w_ifP (by decide +kernel) ?_
              walk_at "w"
              refine w_ixS hb4 (atI_nat (j := 1) rfl) ?_
              walk_at "w"
              refine ⟨_, _, rfl, w4.g_seats, ?_⟩
              walk_at "w"
              refine ⟨_, _, rfl, w4.g_seat r, ?_⟩
              walk_at "w"
              cases es : st.seats r with
              | none =>
                refine WK.w_ifP rfl ?_
                walk_at "w"
                exact no2 _ g04 (by simp [fitsB, es])
              | some z =>
                refine WK.w_ifN (by simp) ?_
                walk_at "w"
                walk_at "i"
                walk_at "i"
                refine w_ixS hb4 (Ev.at0 _) ?_
                dsimp only [Ev.word]
                walk_at "w"
                refine WK.w_ifN (by decide +kernel) (WK.w_ifN (by decide) ?_)
                walk_at "w"
                walk_at "i"
                walk_at "i"
                refine w_ixS hb4 (Ev.at0 _) ?_
                dsimp only [Ev.word]
                walk_at "w"
                refine WK.w_ifN (by decide +kernel) (WK.w_ifN (by decide) ?_)
                walk_at "w"
                exact yes2 _ g04 w4 (by simp [fitsB, es])
            | load r c =>
              dsimp only [Ev.word]
              refine WK.w_ifN (by decide +kernel) (WK.w_ifN (by decide) ?_)
              walk_at "w"
              walk_at "i"
              walk_at "i"
              refine w_ixS hb4 (Ev.at0 _) ?_
              dsimp only [Ev.word]
              walk_at "w"
              refine WK.w_ifN (by decide +kernel) (WK.w_ifN (by decide) ?_)
              walk_at "w"
              walk_at "i"
              walk_at "i"
              refine w_ixS hb4 (Ev.at0 _) ?_
              dsimp only [Ev.word]
              walk_at "w"
              refine WK.w_ifP (by decide +kernel) ?_
              walk_at "w"
              refine w_ixS hb4 (atI_nat (j := 2) rfl) ?_
              walk_at "w"
              refine ⟨_, _, rfl, w4.g_copies, ?_⟩
              walk_at "w"
              refine w_len w4.c ?_
              walk_at "w"
              rw [List.length_map]
              refine WK.w_2 (fun h2 => ?_) (fun h2 => ?_)
              · walk_at "w"
                exact no2 _ g04 (by simp only [fitsB]; exact decide_eq_false (by omega))
              · walk_at "w"
                exact yes2 _ g04 w4 (by simp only [fitsB]; exact decide_eq_true (by omega))
            | read r u =>
              dsimp only [Ev.word]
              refine WK.w_ifP (by decide +kernel) ?_
              walk_at "w"
              refine w_ixS hb4 (atI_nat (j := 1) rfl) ?_
              walk_at "w"
              refine ⟨_, _, rfl, w4.g_seats, ?_⟩
              walk_at "w"
              refine ⟨_, _, rfl, w4.g_seat r, ?_⟩
              walk_at "w"
              cases es : st.seats r with
              | none =>
                refine WK.w_ifP rfl ?_
                walk_at "w"
                exact no2 _ g04 (by simp [fitsB, es])
              | some z =>
                refine WK.w_ifN (by simp) ?_
                walk_at "w"
                walk_at "i"
                walk_at "i"
                refine w_ixS hb4 (Ev.at0 _) ?_
                dsimp only [Ev.word]
                walk_at "w"
                refine WK.w_ifP (by decide +kernel) ?_
                walk_at "w"
                refine WK.w_chain ?_
                walk_at "w"
                refine ⟨_, _, rfl, w4.g_seats, ?_⟩
                walk_at "w"
                refine w_ixS hb4 (atI_nat (j := 1) rfl) ?_
                walk_at "w"
                have hg := w4.g_seat r
                rw [es] at hg
                refine ⟨_, _, rfl, hg, ?_⟩
                walk_at "w"
                refine w_ixS hb4 (atI_nat (j := 2) rfl) ?_
                walk_at "w"
                refine WK.w_2 (fun h1 => ?_) (fun h1 => ?_)
                · walk_at "w"
                  refine ⟨_, _, rfl, w4.g_many, ?_⟩
                  walk_at "w"
                  refine WK.w_2n (fun h2 => ?_) (fun h2 => ?_)
                  · walk_at "w"
                    exact no2 _ g04 (by simp [fitsB, es, h2])
                  · have f1 : fitsB st (.read r u) = true := by simp [fitsB, es, h1, h2]
                    walk_at "w"
                    walk_at "i"
                    walk_at "i"
                    refine w_ixS hb4 (Ev.at0 _) ?_
                    dsimp only [Ev.word]
                    walk_at "w"
                    refine WK.w_ifN (by decide +kernel) (WK.w_ifN (by decide) ?_)
                    walk_at "w"
                    exact yes2 _ g04 w4 f1
                · walk_at "w"
                  refine WK.w_ifP rfl ?_
                  walk_at "w"
                  exact no2 _ g04 (by simp [fitsB, es, h1])
          · rintro σ2 H3 ⟨st, y2, rfl, g3, w3, e3⟩
            walk_at "w"
            have q := q _ g3
            rw [show ttB (.tuple ds) = true from by
              show goB .nil ds = true
              rw [goB_split, ea, e3, hl, List.drop_length]
              rfl] at q
            exact q
    | int i => exact w_isi hv (b := false) (by walk_at "k") ⟨false, rfl, WK.w_ifP (by decide) (no _ (Gr.refl _ _) rfl)⟩
    | bool b => exact w_isi hv (b := false) (by walk_at "k") ⟨false, rfl, WK.w_ifP (by decide) (no _ (Gr.refl _ _) rfl)⟩
    | none => exact w_isi hv (b := false) (by walk_at "k") ⟨false, rfl, WK.w_ifP (by decide) (no _ (Gr.refl _ _) rfl)⟩
    | list _ => exact w_isi hv (b := false) (by walk_at "k") ⟨false, rfl, WK.w_ifP (by decide) (no _ (Gr.refl _ _) rfl)⟩
    | str _ => exact w_isi hv (b := false) (by walk_at "k") ⟨false, rfl, WK.w_ifP (by decide) (no _ (Gr.refl _ _) rfl)⟩

end
end PK
namespace PK
open PySem L2
section
variable {P : Program} {w : World} {K : PySem.W.Frag} {mg : Str → Option Value} {base : Heap}
/-! data of any kind, by where its lists may lie: not deep, not long -/
def AtB : V → Prop
  | .non => True
  | .bl _ => True
  | .int _ => True
  | .str x => PyData.strOk x = true ∧ x.length ≤ 1000
  | _ => False
inductive Ob (N : Addr → Prop) (H : Hp) : Nat → V → Prop
  | at_ {n : Nat} {x : V} (h : AtB x) : Ob N H n x
  | ls {n : Nat} {a : Addr} {xs : List V} (k : N a) (h : H a = some (.lst xs)) (l : xs.length ≤ 1000) (t : ∀ x ∈ xs, Ob N H n x) : Ob N H (n + 1) (.ref a)
  | tp {n : Nat} {a : Addr} {xs : List V} (h : H a = some (.tup xs)) (l : xs.length ≤ 1000) (t : ∀ x ∈ xs, Ob N H n x) : Ob N H (n + 1) (.ref a)
theorem Ob.gr {N N' : Addr → Prop} {H H' : Hp} {M : List Addr} (g : Gr M H H') (hM : ∀ a, N a → a ∉ M) (hN : ∀ a, N a → N' a) {n : Nat} {x : V} (h : Ob N H n x) : Ob N' H' n x := by
  induction h with
  | at_ h => exact .at_ h
  | ls k h l t ih => exact .ls (hN _ k) (g.keep _ _ (hM _ k) h) l ih
  | tp h l t ih => exact .tp (g.tup _ _ h) l ih
theorem Ob.g0 {N : Addr → Prop} {H H' : Hp} (g : Gr [] H H') {n : Nat} {x : V} (h : Ob N H n x) : Ob N H' n x := h.gr g (fun _ _ => by simp) fun _ k => k
theorem Ob.up {N : Addr → Prop} {H : Hp} {n : Nat} {x : V} (h : Ob N H n x) : Ob N H (n + 1) x := by
  induction h with
  | at_ h => exact .at_ h
  | ls k h l t ih => exact .ls k h l ih
  | tp h l t ih => exact .tp h l ih
theorem Ob.off {N : Addr → Prop} {H : Hp} {D : Addr} (hD : H D = none) {n : Nat} {x : V} (h : Ob N H n x) : Ob (fun a => N a ∧ a ≠ D) H n x := by
  induction h with
  | at_ h => exact .at_ h
  | ls k h l t ih => exact .ls ⟨k, fun e => by rw [e, hD] at h; cases h⟩ h l ih
  | tp h l t ih => exact .tp h l ih
theorem ob_all {H : Hp} {n : Nat} : ∀ {xs : List V}, (∀ x ∈ xs, ∃ d, Dp K H x d ∧ Fb n d) → ∃ ds, DpAll K H xs ds ∧ (∀ d ∈ ds, Fb n d) ∧ ds.length = xs.length
  | [], _ => ⟨[], .nil, by simp, rfl⟩
  | x :: xs, h => by
    obtain ⟨d, h1, h2⟩ := h x (by simp)
    obtain ⟨ds, k1, k2, k3⟩ := ob_all (xs := xs) fun y hy => h y (by simp [hy])
    exact ⟨d :: ds, .cons h1 k1, fun e he => by
      rcases List.mem_cons.mp he with q | q
      · rw [q]; exact h2
      · exact k2 e q, by simp [k3]⟩
theorem Ob.dat {N : Addr → Prop} {H : Hp} {n : Nat} {x : V} (h : Ob N H n x) : ∃ d, Dp K H x d ∧ Fb n d := by
  induction h with
  | @at_ n x h =>
    cases x with
    | non => exact ⟨_, .non, by cases n <;> trivial⟩
    | bl b => exact ⟨_, .bl b, by cases n <;> trivial⟩
    | int i => exact ⟨_, .int i, by cases n <;> trivial⟩
    | str s => exact ⟨_, .str s, by cases n <;> exact h⟩
    | _ => exact h.elim
  | ls k h l t ih =>
    obtain ⟨ds, k1, k2, k3⟩ := ob_all ih
    exact ⟨.list ds, .lst (SqL.of h) k1, by rw [k3]; exact l, k2⟩
  | tp h l t ih =>
    obtain ⟨ds, k1, k2, k3⟩ := ob_all ih
    exact ⟨.tuple ds, .tup (SqT.of h) k1, by rw [k3]; exact l, k2⟩
theorem ob_ev {N : Addr → Prop} {H : Hp} {v : V} {e : Ev} (h : IsEv H v e) (k : e.kok) : Ob N H 1 v := by
  obtain ⟨a, rfl, ha⟩ := h
  refine .tp ha (by cases e <;> simp [Ev.vs]) fun x hx => .at_ ?_
  have ks : ∀ z : Str, KeyOk z → PyData.strOk z = true ∧ z.length ≤ 1000 := fun z hz => by
    rcases hz with rfl | rfl | rfl | rfl <;> decide +kernel
  have w1 : ∀ w ∈ WD, PyData.strOk w = true ∧ w.length ≤ 1000 := by decide +kernel
  cases e with
  | put q i =>
    simp only [Ev.vs, List.mem_cons, List.not_mem_nil, or_false] at hx
    rcases hx with rfl | rfl | rfl
    · exact w1 _ (by simp)
    · exact ks _ k
    · trivial
  | drop q =>
    simp only [Ev.vs, List.mem_cons, List.not_mem_nil, or_false] at hx
    rcases hx with rfl | rfl
    · exact w1 _ (by simp)
    · exact ks _ k
  | join r =>
    simp only [Ev.vs, List.mem_cons, List.not_mem_nil, or_false] at hx
    rcases hx with rfl | rfl
    · exact w1 _ (by simp)
    · trivial
  | read r u =>
    simp only [Ev.vs, List.mem_cons, List.not_mem_nil, or_false] at hx
    rcases hx with rfl | rfl | rfl
    · exact w1 _ (by simp)
    · trivial
    · trivial
  | save r =>
    simp only [Ev.vs, List.mem_cons, List.not_mem_nil, or_false] at hx
    rcases hx with rfl | rfl
    · exact w1 _ (by simp)
    · trivial
  | load r c =>
    simp only [Ev.vs, List.mem_cons, List.not_mem_nil, or_false] at hx
    rcases hx with rfl | rfl | rfl
    · exact w1 _ (by simp)
    · trivial
    · trivial
  | wait =>
    simp only [Ev.vs, List.mem_cons, List.not_mem_nil, or_false] at hx
    subst hx
    exact w1 _ (by simp)
/-! tuples cut and put together -/
theorem cut_mem {xs : List V} {lo hi : Option Int} {x : V} (h : x ∈ cutV xs lo hi) : x ∈ xs := List.mem_of_mem_drop (List.mem_of_mem_take h)
theorem w_slS {H : Hp} {Q : VK} {a : Addr} {xs : List V} {lo hi : Option Int} (h : H a = some (.tup xs)) (k : ∀ (p : Addr) (H' : Hp), Gr [] H H' → H' p = some (.tup (cutV xs lo hi)) → Q (.ref p) H') : rSlA K (.ref a) lo hi H Q := by
  refine ⟨a, xs, rfl, SqT.of h, fun w => k a H (Gr.refl _ _) ?_, fun _ p np => k p _ (Gr.new np) upd_same⟩
  have e : cutV xs lo hi = xs := by
    unfold cutV
    rw [w.1, w.2, List.drop_zero, Nat.sub_zero, List.take_length]
  rw [e]
  exact h
theorem w_catS {H : Hp} {Q : VK} {a b : Addr} {xs ys : List V} (h : H a = some (.tup xs)) (h2 : H b = some (.tup ys)) (hz : xs.length + ys.length ≤ 1000) (k : ∀ (p : Addr) (H' : Hp), Gr [] H H' → H' p = some (.tup (xs ++ ys)) → Q (.ref p) H') : rCatA K (.ref a) (.ref b) H Q := by
  refine ⟨a, b, xs, ys, rfl, rfl, SqT.of h, SqT.of h2, WK.sz hz, fun e => k b H (Gr.refl _ _) ?_, fun _ e => k a H (Gr.refl _ _) ?_, fun _ _ p np => k p _ (Gr.new np) upd_same⟩
  · rw [e, List.nil_append]; exact h2
  · rw [e, List.append_nil]; exact h
theorem cut2 {xs : List V} {r : Int} (h : 0 ≤ r) : (cutV xs (some r) (some (r + 2))).length ≤ 2 := by
  obtain ⟨k, rfl⟩ : ∃ k : Nat, r = (k : Int) := ⟨r.toNat, by omega⟩
  unfold cutV
  rw [show (some ((k : Int) + 2)) = some (((k + 2 : Nat)) : Int) from by simp, HT.sIx_nat, HT.sIx_nat, List.length_take, List.length_drop]
  omega
theorem w_back {te : TE} {σ : L2.St} {H : Hp} {Q : VK} (k : te σ H fun x H1 => ∃ a xs, x = .ref a ∧ SqT K H1 a xs ∧ xs.length ≤ 2 ∧ ∀ p, H1 p = none → Q (.ref p) (upd H1 p (.tup xs.reverse))) : tBack K te σ H Q := k
abbrev s_law_bent : Stmt := topS 26
abbrev N_law_bent : List Str := ["_law_box_here", "_law_table_here", "_law_k", "_law_way", "_law_row", "_law_at", "_law_others", "_law_bent_here"]
abbrev ps_law_bent : List Str := ["_law_box_here", "_law_table_here"]
theorem sc_law_bent : FnScope N_law_bent ps_law_bent (defScope s_law_bent) := ⟨rfl, rfl, rfl, by decide +kernel, rfl, by decide +kernel, by decide +kernel⟩
def spBent : Sp := fun vs H Q _ => ∃ (b a : Addr) (xs : List V) (es : List Ev) (n : Nat), vs = [.ref b, .ref a] ∧ Bx H b (n + 4) ∧ H a = some (.tup xs) ∧ Evs H xs es ∧ (∀ e ∈ es, e.kok) ∧ xs ≠ [] ∧ xs.length ≤ 100 ∧
  ∀ (v : V) (H' : Hp), Gr [b] H H' → Bx H' b n → Ob (fun a => H a = none) H' 4 v → Q v H'
theorem has_bent (D : Df K mg "_law_bent" s_law_bent ps_law_bent) (T : Txt mg) (G_law_take : Has P w K mg base 1 "_law_take" ps_law_take spTake) (G_law_of : Has P w K mg base 2 "_law_of" ps_law_of spOf) : Has P w K mg base 3 "_law_bent" ps_law_bent spBent := Has.mk' D fun f fd F => by
  refine F.ok sc_law_bent (fun vs H Q E h => ?_) (fun cdv A outer s H vs Q E hr h => ?_)
  · obtain ⟨b, a, xs, es, n, rfl, _⟩ := h
    rfl
  · obtain ⟨b, a, xs, es, n, rfl, hb, ha, hev, hok, hne, hz, q⟩ := h
    refine ⟨_, (pss_cons (ps_par (i := 2) (j := 3) (by rfl) sc_law_bent.nd rfl rfl (by decide) rfl rfl (pa_cons (pe_callH G_law_take (hr.mono (by decide)) (by rfl) (pa_cons (pv 0) (pa_cons (pe_callB (call_len_seqK (K := K)) (by rfl) T.m_len (by decide +kernel) (pa_cons (pv 1) pa_nil)) pa_nil))) (pa_cons (pe_callH G_law_take (hr.mono (by decide)) (by rfl) (pa_cons (pv 0) (pa_cons pe_int pa_nil))) pa_nil)) (by rfl))
(pss_cons (ps_set (i := 4) sc_law_bent.nd rfl (Or.inl rfl) (pe_ix (ix_tupK (K := K)) (pv 1) (pv 2) (fun _ _ => rfl)))
(pss_cons (ps_set (i := 5) sc_law_bent.nd rfl (Or.inl rfl) (pe_callH G_law_take (hr.mono (by decide)) (by rfl) (pa_cons (pv 0) (pa_cons (pe_callB (call_len_seqK (K := K)) (by rfl) T.m_len (by decide +kernel) (pa_cons (pv 4) pa_nil)) pa_nil))))
(pss_cons (ps_set (i := 6) sc_law_bent.nd rfl (Or.inl rfl) (pe_lst (pa_cons pe_bl (pa_cons (pe_un un_neg pe_int) (pa_cons pe_int (pa_cons pe_int (pa_cons pe_int (pa_cons pe_int (pa_cons pe_str (pa_cons pe_str (pa_cons pe_str (pa_cons pe_str (pa_cons pe_str (pa_cons pe_str (pa_cons pe_non (pa_cons (pe_tup pa_nil) (pa_cons (pe_lst (pa_cons pe_int pa_nil)) (pa_cons (pe_op op_pow pe_int pe_int) pa_nil))))))))))))))))))
(pss_cons (ps_set (i := 6) sc_law_bent.nd rfl (Or.inl rfl) (pe_op op_cat (pv 6) (pe_lst (pa_cons pe_str (pa_cons pe_str (pa_cons pe_str (pa_cons pe_str (pa_cons pe_str pa_nil))))))))
(pss_cons (ps_if (pt_cmpR op_lt (pv 3) pe_int (nomark _))
  (pss_one (ps_ret (pe_op (op_catAK (K := K)) (pe_slice (sl_tupAK (K := K)) (pv 1) po_none (po_some (pv 2))) (pe_slice (sl_tupAK (K := K)) (pv 1) (po_some (pe_op op_add (pv 2) pe_int)) po_none))))
  pss_nil)
(pss_cons (ps_if (pt_cmpR op_eq (pv 3) pe_int (nomark _))
  (pss_one (ps_ret (pe_op (op_catAK (K := K)) (pe_op (op_catAK (K := K)) (pe_slice (sl_tupAK (K := K)) (pv 1) po_none (po_some (pv 2))) (pe_slice (sl_tupAK (K := K)) (pv 1) (po_some (pv 2)) (po_some (pe_op op_add (pv 2) pe_int)))) (pe_slice (sl_tupAK (K := K)) (pv 1) (po_some (pv 2)) po_none))))
  pss_nil)
(pss_cons (ps_if (pt_cmpR op_eq (pv 3) pe_int (nomark _))
  (pss_one (ps_ret (pe_op (op_catAK (K := K)) (pe_op (op_catAK (K := K)) (pe_slice (sl_tupAK (K := K)) (pv 1) po_none (po_some (pv 2))) (pe_back (pe_slice (sl_tupAK (K := K)) (pv 1) (po_some (pv 2)) (po_some (pe_op op_add (pv 2) pe_int))))) (pe_slice (sl_tupAK (K := K)) (pv 1) (po_some (pe_op op_add (pv 2) pe_int)) po_none))))
  pss_nil)
(pss_cons (ps_if (pt_cmpR op_eq (pv 3) pe_int (nomark _))
  (pss_one (ps_ret (pe_callH G_law_of (hr.mono (by decide)) (by rfl) (pa_cons (pv 0) (pa_cons (pe_lst (pa_cons (pe_callTy (call_list_ofK (K := K)) (by rfl) T.m_list (by decide +kernel) (pa_cons (pv 1) pa_nil)) (pa_cons (pe_op (op_catAK (K := K)) (pe_op (op_catAK (K := K)) (pe_slice (sl_tupAK (K := K)) (pv 1) po_none (po_some (pv 2))) (pe_tup (pa_cons (pe_callTy (call_list_ofK (K := K)) (by rfl) T.m_list (by decide +kernel) (pa_cons (pv 4) pa_nil)) pa_nil))) (pe_slice (sl_tupAK (K := K)) (pv 1) (po_some (pe_op op_add (pv 2) pe_int)) po_none)) (pa_cons (pe_op (op_catAK (K := K)) (pv 1) (pe_tup (pa_cons (pe_tup pa_nil) pa_nil))) (pa_cons (pe_tup (pa_cons (pv 1) pa_nil)) pa_nil))))) pa_nil)))))
  pss_nil)
(pss_cons (ps_if (pt_cmpR op_eq (pv 3) pe_int (nomark _))
  (pss_one (ps_ret (pe_op (op_catAK (K := K)) (pe_op (op_catAK (K := K)) (pe_slice (sl_tupAK (K := K)) (pv 1) po_none (po_some (pv 2))) (pe_tup (pa_cons (pe_op (op_catAK (K := K)) (pv 4) (pe_tup (pa_cons pe_int pa_nil))) pa_nil))) (pe_slice (sl_tupAK (K := K)) (pv 1) (po_some (pe_op op_add (pv 2) pe_int)) po_none))))
  pss_nil)
(pss_cons (ps_set (i := 7) sc_law_bent.nd rfl (Or.inl rfl) (pe_op (op_catAK (K := K)) (pe_op (op_catAK (K := K)) (pe_slice (sl_tupAK (K := K)) (pv 4) po_none (po_some (pv 5))) (pe_tup (pa_cons (pe_callH G_law_of (hr.mono (by decide)) (by rfl) (pa_cons (pv 0) (pa_cons (pv 6) pa_nil))) pa_nil))) (pe_slice (sl_tupAK (K := K)) (pv 4) (po_some (pe_op op_add (pv 5) pe_int)) po_none)))
(pss_one (ps_ret (pe_op (op_catAK (K := K)) (pe_op (op_catAK (K := K)) (pe_slice (sl_tupAK (K := K)) (pv 1) po_none (po_some (pv 2))) (pe_tup (pa_cons (pv 7) pa_nil))) (pe_slice (sl_tupAK (K := K)) (pv 1) (po_some (pe_op op_add (pv 2) pe_int)) po_none))))))))))))))), ?_⟩
    have hE : ∀ (H' : Hp) (M : List Addr), Gr M H H' → ∀ x ∈ xs, Ob (fun a => H a = none) H' 3 x := fun H' M g x hx => by
      obtain ⟨e, he, hv⟩ := mem_of_pr hev hx
      exact (ob_ev (hv.gr g) (hok e he)).up.up
    have l0 : 0 < xs.length := List.length_pos_iff.mpr hne
    have bN : ∀ a, H a = none → a ∉ [b] := fun a h => by
      obtain ⟨_, z⟩ := hb.lst
      intro hm
      rw [List.mem_singleton.mp hm, z] at h
      cases h
    walk_at "w"
    refine w_lenT ha ?_
    walk_at "w"
    refine use_take (n := n + 3) hb (by omega) (by omega) (fun r1 H1 r10 r11 g1 hb1 => ?_)
    walk_at "w"
    refine use_take (n := n + 2) hb1 (by omega) (by omega) (fun r2 H2 r20 r21 g2 hb2 => ?_)
    have g02 := g1.trans g2
    have ha2 := g02.tup _ _ ha
    have ex : xs[r1.toNat]? = some xs[r1.toNat] := List.getElem?_eq_getElem (by omega)
    obtain ⟨e, he, ⟨c, ec, hc⟩⟩ := pr_get hev ex
    rw [ec] at ex
    have ke := hok e (List.mem_of_getElem? he)
    have hc2 := g02.tup _ _ hc
    have el : 0 < e.vs.length ∧ e.vs.length ≤ 3 := by cases e <;> simp [Ev.vs]
    walk_at "w"
    refine w_ixS (SqT.of ha2) (WK.at_ofG (by omega) ex) ?_
    walk_at "w"
    refine w_lenT hc2 ?_
    walk_at "w"
    refine use_take (n := n + 1) hb2 (by omega) (by omega) (fun r3 H3 r30 r31 g3 hb3 => ?_)
    have g03 := g02.trans g3
    have ha3 := g3.tup _ _ ha2
    have hc3 := g3.tup _ _ hc2
    walk_at "w"
    refine ⟨WK.sz, fun p1 np1 => ?_⟩
    have k1 : Gr [] H3 (upd H3 p1 (.tup [])) := Gr.new np1
    have hp1 : (upd H3 p1 (.tup [])) p1 = some (.tup []) := upd_same
    generalize (upd H3 p1 (.tup [])) = H4 at *
    walk_at "w"
    refine ⟨WK.sz, fun z1 nz1 => ?_⟩
    have k2 : Gr [] H4 (upd H4 z1 (.lst [.int 0])) := Gr.new nz1
    have hz1 : (upd H4 z1 (.lst [.int 0])) z1 = some (.lst [.int 0]) := upd_same
    have hp1 := k2.k0 hp1
    generalize (upd H4 z1 (.lst [.int 0])) = H5 at *
    walk_at "w"
    refine ⟨WK.sz, fun o1 no1 => ?_⟩
    have nz0 : H z1 = none := g03.live _ (k1.live _ nz1)
    have no0 : H o1 = none := g03.live _ (k1.live _ (k2.live _ no1))
    obtain ⟨os1, eo1⟩ : ∃ os, os = [V.bl true, .int (-1), .int 0, .int 1, .int 2, .int 7, .str "a", .str "A", .str "", .str "abcdefghi", .str "put", .str "wait", .non, .ref p1, .ref z1, .int (10 ^ (12 : Int).toNat)] := ⟨_, rfl⟩
    rw [← eo1]
    have k3 : Gr [] H5 (upd H5 o1 (.lst os1)) := Gr.new no1
    have ho1 : (upd H5 o1 (.lst os1)) o1 = some (.lst os1) := upd_same
    have hp1 := k3.k0 hp1
    have hz1 := k3.k0 hz1
    generalize (upd H5 o1 (.lst os1)) = H6 at *
    walk_at "w"
    refine ⟨WK.sz, fun o2 no2 => ?_⟩
    obtain ⟨os2, eo2⟩ : ∃ os, os = [V.str "a1", .str "a b", .str "a_b", .str "12", .str " a"] := ⟨_, rfl⟩
    rw [← eo2]
    have k4 : Gr [] H6 (upd H6 o2 (.lst os2)) := Gr.new no2
    have ho2 : (upd H6 o2 (.lst os2)) o2 = some (.lst os2) := upd_same
    have ho1 := k4.k0 ho1
    have hp1 := k4.k0 hp1
    have hz1 := k4.k0 hz1
    generalize (upd H6 o2 (.lst os2)) = H7 at *
    walk_at "w"
    refine ⟨o1, o2, os1, os2, rfl, rfl, ho1, ho2, WK.sz (by rw [eo1, eo2]; simp), fun o3 no3 => ?_⟩
    have k5 : Gr [] H7 (upd H7 o3 (.lst (os1 ++ os2))) := Gr.new no3
    have ho3 : (upd H7 o3 (.lst (os1 ++ os2))) o3 = some (.lst (os1 ++ os2)) := upd_same
    have hp1 := k5.k0 hp1
    have hz1 := k5.k0 hz1
    have kk := (((k1.trans k2).trans k3).trans k4).trans k5
    have no3' : H3 o3 = none := k1.live _ (k2.live _ (k3.live _ (k4.live _ no3)))
    generalize (upd H7 o3 (.lst (os1 ++ os2))) = H8 at *
    have g08 := g03.trans (kk.mono (by simp))
    have hb8 := hb3.keep kk (by simp)
    have ha8 := g08.tup _ _ ha
    have hc8 := g08.tup _ _ hc
    have no3b : o3 ≠ b := fun e => by
      obtain ⟨_, z⟩ := hb3.lst
      rw [← e, no3'] at z
      cases z
    have obs : ∀ (H' : Hp) (M : List Addr), Gr M H8 H' → z1 ∉ M → ∀ x ∈ os1 ++ os2, Ob (fun a => H a = none) H' 2 x := fun H' M g zM x hx => by
      rw [eo1, eo2] at hx
      have s0 : ∀ w ∈ (["a", "A", "", "abcdefghi", "put", "wait", "a1", "a b", "a_b", "12", " a"] : List Str), PyData.strOk w = true ∧ w.length ≤ 1000 := by decide +kernel
      simp only [List.cons_append, List.nil_append, List.mem_cons, List.not_mem_nil, or_false] at hx
      rcases hx with rfl | rfl | rfl | rfl | rfl | rfl | rfl | rfl | rfl | rfl | rfl | rfl | rfl | rfl | rfl | rfl | rfl | rfl | rfl | rfl | rfl
      · exact .at_ trivial
      · exact .at_ trivial
      · exact .at_ trivial
      · exact .at_ trivial
      · exact .at_ trivial
      · exact .at_ trivial
      · exact .at_ (s0 _ (by simp))
      · exact .at_ (s0 _ (by simp))
      · exact .at_ (s0 _ (by simp))
      · exact .at_ (s0 _ (by simp))
      · exact .at_ (s0 _ (by simp))
      · exact .at_ (s0 _ (by simp))
      · exact .at_ trivial
      · exact .tp (g.tup _ _ hp1) (by simp) (by simp)
      · exact .ls nz0 (g.keep _ _ zM hz1) (by simp) (fun x hx => by rw [List.mem_singleton.mp hx]; exact .at_ trivial)
      · exact .at_ trivial
      · exact .at_ (s0 _ (by simp))
      · exact .at_ (s0 _ (by simp))
      · exact .at_ (s0 _ (by simp))
      · exact .at_ (s0 _ (by simp))
      · exact .at_ (s0 _ (by simp))
    have fin : ∀ (p : Addr) (H' : Hp) (zs : List V), Gr [b] H H' → Bx H' b n → H' p = some (.tup zs) → zs.length ≤ 1000 → (∀ z ∈ zs, Ob (fun a => H a = none) H' 3 z) → Q (.ref p) H' := fun p H' zs g hb' hp hl hq => q _ H' g hb' (.tp hp hl hq)
    have cl : ∀ lo hi, (cutV xs lo hi).length ≤ 100 := fun lo hi => Nat.le_trans (cutV_length xs lo hi) hz
    walk_at "w"
    walk_at "i"
    refine WK.w_2 (fun h1 => ?_) (fun h1 => ?_)
    · walk_at "w"
      refine w_slS ha8 fun q1 I1 m1 e1 => ?_
      walk_at "w"
      refine w_slS (m1.tup _ _ ha8) fun q2 I2 m2 e2 => ?_
      refine w_catS (m2.tup _ _ e1) e2 (by have := cl none (some r1); have := cl (some (r1 + 1)) none; omega) fun q3 I3 m3 e3 => ?_
      have mm := (m1.trans m2).trans m3
      have gg := g08.trans (mm.mono (by simp))
      refine fin _ _ _ gg ((hb8.keep mm (by simp)).mono (by omega)) e3 (by rw [List.length_append]; have := cl none (some r1); have := cl (some (r1 + 1)) none; omega) fun z hz' => ?_
      rcases List.mem_append.mp hz' with hz' | hz'
      · exact hE _ _ gg _ (cut_mem hz')
      · exact hE _ _ gg _ (cut_mem hz')
    walk_at "w"
    walk_at "i"
    refine WK.w_2 (fun h2 => ?_) (fun h2 => ?_)
    · walk_at "w"
      refine w_slS ha8 fun q1 I1 m1 e1 => ?_
      walk_at "w"
      refine w_slS (m1.tup _ _ ha8) fun q2 I2 m2 e2 => ?_
      refine w_catS (m2.tup _ _ e1) e2 (by (try simp only [List.length_append, List.length_cons, List.length_nil]); have := cl none (some r1); have := cl (some (r1 + 1)) none; have := cl (some (r1 + 2)) none; have := cl (some r1) none; have := cl (some r1) (some (r1 + 1)); have := (cut2 (xs := xs) r10); omega) fun q3 I3 m3 e3 => ?_
      have m13 := (m1.trans m2).trans m3
      walk_at "w"
      refine w_slS (m13.tup _ _ ha8) fun q4 I4 m4 e4 => ?_
      refine w_catS (m4.tup _ _ e3) e4 (by (try simp only [List.length_append, List.length_cons, List.length_nil]); have := cl none (some r1); have := cl (some (r1 + 1)) none; have := cl (some (r1 + 2)) none; have := cl (some r1) none; have := cl (some r1) (some (r1 + 1)); have := (cut2 (xs := xs) r10); omega) fun q5 I5 m5 e5 => ?_
      have mm := (m13.trans m4).trans m5
      have gg := g08.trans (mm.mono (by simp))
      refine fin _ _ _ gg ((hb8.keep mm (by simp)).mono (by omega)) e5 (by (try simp only [List.length_append, List.length_cons, List.length_nil]); have := cl none (some r1); have := cl (some (r1 + 1)) none; have := cl (some (r1 + 2)) none; have := cl (some r1) none; have := cl (some r1) (some (r1 + 1)); have := (cut2 (xs := xs) r10); omega) fun z hz' => ?_
      rcases List.mem_append.mp hz' with hz' | hz'
      · rcases List.mem_append.mp hz' with hz' | hz'
        · exact hE _ _ gg _ (cut_mem hz')
        · exact hE _ _ gg _ (cut_mem hz')
      · exact hE _ _ gg _ (cut_mem hz')
    walk_at "w"
    walk_at "i"
    refine WK.w_2 (fun h3 => ?_) (fun h3 => ?_)
    · walk_at "w"
      refine w_slS ha8 fun q1 I1 m1 e1 => ?_
      refine w_back ?_
      walk_at "w"
      refine w_slS (m1.tup _ _ ha8) fun q2 I2 m2 e2 => ?_
      refine ⟨q2, _, rfl, SqT.of e2, cut2 r10, fun q6 n6 => ?_⟩
      have m6 : Gr [] I2 (upd I2 q6 (.tup (cutV xs (some r1) (some (r1 + 2))).reverse)) := Gr.new n6
      have e6 : (upd I2 q6 (.tup (cutV xs (some r1) (some (r1 + 2))).reverse)) q6 = some (.tup (cutV xs (some r1) (some (r1 + 2))).reverse) := upd_same
      generalize (upd I2 q6 (.tup (cutV xs (some r1) (some (r1 + 2))).reverse)) = I6 at *
      refine w_catS ((m2.trans m6).tup _ _ e1) e6 (by rw [List.length_reverse]; have := cl none (some r1); have := cl (some (r1 + 1)) none; have := cl (some (r1 + 2)) none; have := cl (some r1) none; have := cl (some r1) (some (r1 + 1)); have := (cut2 (xs := xs) r10); omega) fun q3 I3 m3 e3 => ?_
      have m13 := ((m1.trans m2).trans m6).trans m3
      walk_at "w"
      refine w_slS (m13.tup _ _ ha8) fun q4 I4 m4 e4 => ?_
      refine w_catS (m4.tup _ _ e3) e4 (by rw [List.length_append, List.length_reverse]; (try simp only [List.length_append, List.length_cons, List.length_nil]); have := cl none (some r1); have := cl (some (r1 + 1)) none; have := cl (some (r1 + 2)) none; have := cl (some r1) none; have := cl (some r1) (some (r1 + 1)); have := (cut2 (xs := xs) r10); omega) fun q5 I5 m5 e5 => ?_
      have mm := (m13.trans m4).trans m5
      have gg := g08.trans (mm.mono (by simp))
      refine fin _ _ _ gg ((hb8.keep mm (by simp)).mono (by omega)) e5 (by rw [List.length_append, List.length_append, List.length_reverse]; (try simp only [List.length_append, List.length_cons, List.length_nil]); have := cl none (some r1); have := cl (some (r1 + 1)) none; have := cl (some (r1 + 2)) none; have := cl (some r1) none; have := cl (some r1) (some (r1 + 1)); have := (cut2 (xs := xs) r10); omega) fun z hz' => ?_
      rcases List.mem_append.mp hz' with hz' | hz'
      · rcases List.mem_append.mp hz' with hz' | hz'
        · exact hE _ _ gg _ (cut_mem hz')
        · exact hE _ _ gg _ (cut_mem (List.mem_reverse.mp hz'))
      · exact hE _ _ gg _ (cut_mem hz')
    walk_at "w"
    walk_at "i"
    refine WK.w_2 (fun h4 => ?_) (fun h4 => ?_)
    · walk_at "w"
      refine ⟨a, xs, rfl, .inr (SqT.of ha8), fun l1 nl1 => ?_⟩
      have j1 : Gr [] H8 (upd H8 l1 (.lst xs)) := Gr.new nl1
      have f1 : (upd H8 l1 (.lst xs)) l1 = some (.lst xs) := upd_same
      have nl0 : H l1 = none := g08.live _ nl1
      generalize (upd H8 l1 (.lst xs)) = J1 at *
      walk_at "w"
      refine w_slS (j1.tup _ _ ha8) fun q1 J2 j2 e1 => ?_
      walk_at "w"
      refine ⟨c, e.vs, rfl, .inr (SqT.of (j2.tup _ _ (j1.tup _ _ hc8))), fun l2 nl2 => ?_⟩
      have j3 : Gr [] J2 (upd J2 l2 (.lst e.vs)) := Gr.new nl2
      have f2 : (upd J2 l2 (.lst e.vs)) l2 = some (.lst e.vs) := upd_same
      have nl20 : H l2 = none := g08.live _ (j1.live _ (j2.live _ nl2))
      generalize (upd J2 l2 (.lst e.vs)) = J3 at *
      walk_at "w"
      refine ⟨WK.sz, fun t1 nt1 => ?_⟩
      have j4 : Gr [] J3 (upd J3 t1 (.tup [.ref l2])) := Gr.new nt1
      have f3 : (upd J3 t1 (.tup [.ref l2])) t1 = some (.tup [.ref l2]) := upd_same
      generalize (upd J3 t1 (.tup [.ref l2])) = J4 at *
      refine w_catS ((j3.trans j4).tup _ _ e1) f3 (by (try simp only [List.length_append, List.length_cons, List.length_nil]); have := cl none (some r1); have := cl (some (r1 + 1)) none; omega) fun q3 J5 j5 e3 => ?_
      walk_at "w"
      have j15 := (((j1.trans j2).trans j3).trans j4).trans j5
      refine w_slS (j15.tup _ _ ha8) fun q4 J6 j6 e4 => ?_
      refine w_catS (j6.tup _ _ e3) e4 (by (try simp only [List.length_append, List.length_cons, List.length_nil]); have := cl none (some r1); have := cl (some (r1 + 1)) none; omega) fun q5 J7 j7 e5 => ?_
      walk_at "w"
      have j17 := (j15.trans j6).trans j7
      refine ⟨WK.sz, fun t2 nt2 => ?_⟩
      have j8 : Gr [] J7 (upd J7 t2 (.tup [])) := Gr.new nt2
      have f4 : (upd J7 t2 (.tup [])) t2 = some (.tup []) := upd_same
      generalize (upd J7 t2 (.tup [])) = J8 at *
      walk_at "w"
      refine ⟨WK.sz, fun t3 nt3 => ?_⟩
      have j9 : Gr [] J8 (upd J8 t3 (.tup [.ref t2])) := Gr.new nt3
      have f5 : (upd J8 t3 (.tup [.ref t2])) t3 = some (.tup [.ref t2]) := upd_same
      have f4 := j9.k0 f4
      generalize (upd J8 t3 (.tup [.ref t2])) = J9 at *
      have j19 := (j17.trans j8).trans j9
      refine w_catS (j19.tup _ _ ha8) f5 (by simp only [List.length_cons, List.length_nil]; omega) fun q6 JA ja e6 => ?_
      walk_at "w"
      refine ⟨WK.sz, fun t4 nt4 => ?_⟩
      have jb : Gr [] JA (upd JA t4 (.tup [.ref a])) := Gr.new nt4
      have f6 : (upd JA t4 (.tup [.ref a])) t4 = some (.tup [.ref a]) := upd_same
      generalize (upd JA t4 (.tup [.ref a])) = JB at *
      walk_at "w"
      refine ⟨WK.sz, fun l3 nl3 => ?_⟩
      have jc : Gr [] JB (upd JB l3 (.lst [.ref l1, .ref q5, .ref q6, .ref t4])) := Gr.new nl3
      have f7 : (upd JB l3 (.lst [.ref l1, .ref q5, .ref q6, .ref t4])) l3 = some (.lst [.ref l1, .ref q5, .ref q6, .ref t4]) := upd_same
      generalize (upd JB l3 (.lst [.ref l1, .ref q5, .ref q6, .ref t4])) = JC at *
      have j1b := (j19.trans ja).trans jb
      have j1c := j1b.trans jc
      have g0c := g08.trans (j1c.mono (by simp))
      have nl3b : l3 ≠ b := fun q => by
        obtain ⟨_, z⟩ := hb3.lst
        rw [← q, kk.live _ (j1b.live _ nl3)] at z
        cases z
      walk_at "w"
      refine use_of (n := n) (hb8.keep j1c (by simp)) f7 nl3b (by simp) (by simp) (fun jj y JD hy gy hby => ?_)
      have gd := g0c.trans gy
      refine q _ _ gd hby ?_
      have f1d := gy.keep _ _ (bN _ nl0) (((((((((j2.trans j3).trans j4).trans j5).trans j6).trans j7).trans j8).trans j9).trans ((ja.trans jb).trans jc)).k0 f1)
      have f2d := gy.keep _ _ (bN _ nl20) ((((((j4.trans j5).trans j6).trans j7).trans j8).trans (j9.trans ((ja.trans jb).trans jc))).k0 f2)
      have e5d := gy.tup _ _ ((((j8.trans j9).trans ja).trans (jb.trans jc)).k0 e5)
      have f4d := gy.tup _ _ (((ja.trans jb).trans jc).k0 f4)
      have e6d := gy.tup _ _ ((jb.trans jc).k0 e6)
      have f6d := gy.tup _ _ (jc.k0 f6)
      have oT : Ob (fun a => H a = none) JD 3 (.ref a) := .tp (gd.tup _ _ ha) (by omega) fun x hx => by
        obtain ⟨e', he', hv'⟩ := mem_of_pr hev hx
        exact (ob_ev (hv'.gr gd) (hok e' he')).up
      have oR : Ob (fun a => H a = none) JD 3 (.ref l2) := Ob.up (.ls nl20 f2d (by omega) fun x hx => by
        have o1 : Ob (fun a => H a = none) JD 1 (.ref c) := ob_ev ⟨c, rfl, gd.tup _ _ hc⟩ ke
        cases o1 with
        | at_ h => exact h.elim
        | ls _ h _ t => rw [gd.tup _ _ hc] at h; cases h
        | tp h _ t => rw [gd.tup _ _ hc] at h; cases h; exact (t x hx).up)
      match jj, hy with
      | 0, hy =>
        cases hy
        exact .ls nl0 f1d (by omega) (hE _ _ gd)
      | 1, hy =>
        cases hy
        refine .tp e5d (by (try simp only [List.length_append, List.length_cons, List.length_nil]); have := cl none (some r1); have := cl (some (r1 + 1)) none; omega) fun z hz' => ?_
        rcases List.mem_append.mp hz' with hz' | hz'
        · rcases List.mem_append.mp hz' with hz' | hz'
          · exact hE _ _ gd _ (cut_mem hz')
          · rw [List.mem_singleton.mp hz']
            exact oR
        · exact hE _ _ gd _ (cut_mem hz')
      | 2, hy =>
        cases hy
        refine .tp e6d (by simp only [List.length_append, List.length_cons, List.length_nil]; omega) fun z hz' => ?_
        rcases List.mem_append.mp hz' with hz' | hz'
        · exact hE _ _ gd _ hz'
        · rw [List.mem_singleton.mp hz']
          exact .tp f4d (by simp) (by simp)
      | 3, hy =>
        cases hy
        refine .tp f6d (by simp) fun z hz' => ?_
        rw [List.mem_singleton.mp hz']
        exact oT
      | n + 4, hy => simp at hy
    walk_at "w"
    walk_at "i"
    refine WK.w_2 (fun h5 => ?_) (fun h5 => ?_)
    · walk_at "w"
      refine w_slS ha8 fun q1 I1 m1 e1 => ?_
      walk_at "w"
      refine ⟨WK.sz, fun u1 nu1 => ?_⟩
      have mu : Gr [] I1 (upd I1 u1 (.tup [.int 0])) := Gr.new nu1
      have eu : (upd I1 u1 (.tup [.int 0])) u1 = some (.tup [.int 0]) := upd_same
      generalize (upd I1 u1 (.tup [.int 0])) = J1 at *
      refine w_catS ((m1.trans mu).tup _ _ hc8) eu (by simp only [List.length_cons, List.length_nil]; omega) fun u2 J2 mu2 eu2 => ?_
      walk_at "w"
      refine ⟨WK.sz, fun u3 nu3 => ?_⟩
      have mu3 : Gr [] J2 (upd J2 u3 (.tup [.ref u2])) := Gr.new nu3
      have eu3 : (upd J2 u3 (.tup [.ref u2])) u3 = some (.tup [.ref u2]) := upd_same
      have eu2' := mu3.k0 eu2
      generalize (upd J2 u3 (.tup [.ref u2])) = J3 at *
      have mj := (mu.trans mu2).trans mu3
      refine w_catS (mj.tup _ _ e1) eu3 (by (try simp only [List.length_append, List.length_cons, List.length_nil]); have := cl none (some r1); have := cl (some (r1 + 1)) none; have := cl (some (r1 + 2)) none; have := cl (some r1) none; have := cl (some r1) (some (r1 + 1)); have := (cut2 (xs := xs) r10); omega) fun q3 I3 m3 e3 => ?_
      have m13 := (m1.trans mj).trans m3
      walk_at "w"
      refine w_slS (m13.tup _ _ ha8) fun q4 I4 m4 e4 => ?_
      refine w_catS (m4.tup _ _ e3) e4 (by (try simp only [List.length_append, List.length_cons, List.length_nil]); have := cl none (some r1); have := cl (some (r1 + 1)) none; have := cl (some (r1 + 2)) none; have := cl (some r1) none; have := cl (some r1) (some (r1 + 1)); have := (cut2 (xs := xs) r10); omega) fun q5 I5 m5 e5 => ?_
      have mm := (m13.trans m4).trans m5
      have gg := g08.trans (mm.mono (by simp))
      refine fin _ _ _ gg ((hb8.keep mm (by simp)).mono (by omega)) e5 (by (try simp only [List.length_append, List.length_cons, List.length_nil]); have := cl none (some r1); have := cl (some (r1 + 1)) none; have := cl (some (r1 + 2)) none; have := cl (some r1) none; have := cl (some r1) (some (r1 + 1)); have := (cut2 (xs := xs) r10); omega) fun z hz' => ?_
      rcases List.mem_append.mp hz' with hz' | hz'
      · rcases List.mem_append.mp hz' with hz' | hz'
        · exact hE _ _ gg _ (cut_mem hz')
        · rw [List.mem_singleton.mp hz']
          refine Ob.up (.tp (((m3.trans m4).trans m5).k0 eu2') (by simp only [List.length_append, List.length_cons, List.length_nil]; omega) fun x hx => ?_)
          rcases List.mem_append.mp hx with hx | hx
          · have o1 : Ob (fun a => H a = none) I5 1 (.ref c) := ob_ev ⟨c, rfl, gg.tup _ _ hc⟩ ke
            cases o1 with
            | at_ h => exact h.elim
            | ls _ h _ t => rw [gg.tup _ _ hc] at h; cases h
            | tp h _ t => rw [gg.tup _ _ hc] at h; cases h; exact (t x hx).up
          · rw [List.mem_singleton.mp hx]; exact .at_ trivial
      · exact hE _ _ gg _ (cut_mem hz')
    walk_at "w"
    have cc : ∀ lo hi, (cutV e.vs lo hi).length ≤ 3 := fun lo hi => Nat.le_trans (cutV_length e.vs lo hi) el.2
    have hR : ∀ (H' : Hp) (M : List Addr), Gr M H H' → ∀ x ∈ e.vs, Ob (fun a => H a = none) H' 2 x := fun H' M g x hx => by
      have o1 : Ob (fun a => H a = none) H' 1 (.ref c) := ob_ev ⟨c, rfl, g.tup _ _ hc⟩ ke
      cases o1 with
      | at_ h => exact h.elim
      | ls _ h _ t => rw [g.tup _ _ hc] at h; cases h
      | tp h _ t => rw [g.tup _ _ hc] at h; cases h; exact (t x hx).up.up
    refine w_slS hc8 fun u1 J1 j1 f1 => ?_
    walk_at "w"
    refine use_of (n := n) (hb8.keep j1 (by simp)) (j1.k0 ho3) no3b (by rw [eo1]; simp) (by rw [eo1, eo2]; simp) (fun jj y J2 hy gy hby => ?_)
    have gz : Gr [b] H8 J2 := (j1.mono (by simp)).trans gy
    have oy : Ob (fun a => H a = none) J2 2 y := obs J2 [b] gz (bN _ nz0) y (List.mem_of_getElem? hy)
    have f1 := gy.tup _ _ f1
    walk_at "w"
    refine ⟨WK.sz, fun u3 nu3 => ?_⟩
    have mu3 : Gr [] J2 (upd J2 u3 (.tup [y])) := Gr.new nu3
    have eu3 : (upd J2 u3 (.tup [y])) u3 = some (.tup [y]) := upd_same
    generalize (upd J2 u3 (.tup [y])) = J3 at *
    refine w_catS (mu3.tup _ _ f1) eu3 (by have := cc none (some r3); simp only [List.length_cons, List.length_nil]; omega) fun u4 J4 j4 f4 => ?_
    walk_at "w"
    have g24 := mu3.trans j4
    refine w_slS (g24.tup _ _ (gz.tup _ _ hc8)) fun u5 J5 j5 f5 => ?_
    refine w_catS (j5.tup _ _ f4) f5 (by have := cc none (some r3); have := cc (some (r3 + 1)) none; simp only [List.length_append, List.length_cons, List.length_nil]; omega) fun u6 J6 j6 f6 => ?_
    walk_at "w"
    have g26 := (g24.trans j5).trans j6
    have ha26 := g26.tup _ _ (gz.tup _ _ ha8)
    refine w_slS ha26 fun q1 I1 m1 e1 => ?_
    walk_at "w"
    refine ⟨WK.sz, fun u7 nu7 => ?_⟩
    have mu7 : Gr [] I1 (upd I1 u7 (.tup [.ref u6])) := Gr.new nu7
    have eu7 : (upd I1 u7 (.tup [.ref u6])) u7 = some (.tup [.ref u6]) := upd_same
    generalize (upd I1 u7 (.tup [.ref u6])) = I2 at *
    refine w_catS (mu7.tup _ _ e1) eu7 (by (try simp only [List.length_append, List.length_cons, List.length_nil]); have := cl none (some r1); have := cl (some (r1 + 1)) none; omega) fun q3 I3 m3 e3 => ?_
    have m13 := (m1.trans mu7).trans m3
    walk_at "w"
    refine w_slS (m13.tup _ _ ha26) fun q4 I4 m4 e4 => ?_
    refine w_catS (m4.tup _ _ e3) e4 (by (try simp only [List.length_append, List.length_cons, List.length_nil]); have := cl none (some r1); have := cl (some (r1 + 1)) none; omega) fun q5 I5 m5 e5 => ?_
    have mm := ((g26.trans m13).trans m4).trans m5
    have m6 := (m13.trans m4).trans m5
    have gg := (g08.trans gz).trans (mm.mono (by simp))
    refine fin _ _ _ gg (hby.keep mm (by simp)) e5 (by (try simp only [List.length_append, List.length_cons, List.length_nil]); have := cl none (some r1); have := cl (some (r1 + 1)) none; omega) fun z hz' => ?_
    rcases List.mem_append.mp hz' with hz' | hz'
    · rcases List.mem_append.mp hz' with hz' | hz'
      · exact hE _ _ gg _ (cut_mem hz')
      · rw [List.mem_singleton.mp hz']
        refine .tp (m6.k0 f6) (by have := cc none (some r3); have := cc (some (r3 + 1)) none; simp only [List.length_append, List.length_cons, List.length_nil]; omega) fun x hx => ?_
        rcases List.mem_append.mp hx with hx | hx
        · rcases List.mem_append.mp hx with hx | hx
          · exact hR _ _ gg _ (cut_mem hx)
          · rw [List.mem_singleton.mp hx]
            exact oy.g0 mm
        · exact hR _ _ gg _ (cut_mem hx)
    · exact hE _ _ gg _ (cut_mem hz')

end
end PK
namespace PK
open PySem L2
section
variable {P : Program} {w : World} {K : PySem.W.Frag} {mg : Str → Option Value} {base : Heap}
theorem ob_tup {N : Addr → Prop} {H : Hp} {n : Nat} {p : Addr} {xs : List V} (np : H p = none) (l : xs.length ≤ 1000) (t : ∀ x ∈ xs, Ob N H n x) : Ob N (upd H p (.tup xs)) (n + 1) (.ref p) := .tp upd_same l fun x hx => (t x hx).g0 (Gr.new np)
theorem ob_lst {N : Addr → Prop} {H : Hp} {n : Nat} {p : Addr} {xs : List V} (k : N p) (np : H p = none) (l : xs.length ≤ 1000) (t : ∀ x ∈ xs, Ob N H n x) : Ob N (upd H p (.lst xs)) (n + 1) (.ref p) := .ls k upd_same l fun x hx => (t x hx).g0 (Gr.new np)
theorem at_words {N : Addr → Prop} {H : Hp} {n : Nat} : ∀ w ∈ (["wait", "drop", "put", "a1", "a b", "x9"] : List Str), Ob N H n (.str w) := fun w hw => .at_ (show PyData.strOk w = true ∧ w.length ≤ 1000 from (by decide +kernel : ∀ w ∈ (["wait", "drop", "put", "a1", "a b", "x9"] : List Str), PyData.strOk w = true ∧ w.length ≤ 1000) w hw)
theorem w_neTup0 {H : Hp} {Q : VK} {a p : Addr} {xs : List V} {ds : List PyData} {n : Nat} (h : SqT K H a xs) (hd : DpAll K H xs ds) (hs : ShA ds n) (l : n ≤ 63) (he : H p = some (.tup [])) (k : Q (.bl (!ds.isEmpty)) H) : rNeD K (.ref a) (.ref p) H Q :=
  ⟨.tuple ds, .tuple [], .tup h hd, .tup (SqT.of he) .nil, hs.tuple.shaped (by omega), (ShA.nil (n := 0)).tuple.shaped (by omega), by
    have e : PyData.eqv (.tuple ds) (.tuple []) = ds.isEmpty := by cases ds <;> simp [PyData.eqv, PyData.eqvAll]
    rw [e]
    exact k⟩
theorem w_ifExpSeq {tt : TT} {ta tb : TE} {σ : L2.St} {H : Hp} {R : It → Hp → Prop} (k : iList K (tIf tt ta tb) σ H R ∨ iTup K (tIf tt ta tb) σ H R) : iSeq K (tIf tt ta tb) σ H R := k
theorem twins {H : Hp} {l : Addr} {c : Bool} (h : H l = some (.lst [.bl c, .bl c])) : Dp K H (.ref l) (.list [.bool c, .bool c]) := .lst (SqL.of h) (.cons (.bl c) (.cons (.bl c) .nil))
theorem twins_fine {c : Bool} : Fine 1 (.list [.bool c, .bool c]) := ⟨by simp, by simp [Fine]⟩
theorem Ob.any {N : Addr → Prop} {H H' : Hp} (g : Gr [] H H') {n : Nat} {x : V} (h : Ob N H n x) : Ob (fun _ => True) H' n x := h.gr g (fun _ _ => by simp) fun _ _ => trivial
/-- what a value that may be a list, a tuple or another one is walked as -/
theorem seq_any {σ : L2.St} {H : Hp} {R : It → Hp → Prop} {x : V} {N : Addr → Prop} (hσ : σ[4]? = some (some x)) (ox : Ob N H 4 x)
    (key : ∀ (J : It) (G : Hp → Prop) (zs : List V) (H1 : Hp), Walk J zs.length G (YAt zs) → Gr [] H H1 → (∀ H', Gr [] H1 H' → G H') → (∀ z ∈ zs, Ob (fun _ => True) H1 3 z) → zs.length ≤ 1000 → R J H1) :
    iSeq K (tIf (tB (tCB (rIsiT K) (tCons (tVar 4) (tCons (tTup (tCons (tC (.ty "tuple")) (tCons (tC (.ty "list")) tNil))) tNil)))) (tVar 4) (tLst (tCons (tVar 4) tNil))) σ H R := by
  cases ox with
  | tp h l t =>
    rename_i c zs
    obtain ⟨ds, d1, _, _⟩ := ob_all (K := K) fun x hx => (t x hx).dat (K := K)
    refine .inr ?_
    walk_at "w"
    walk_at "i"
    refine ⟨_, hσ, ?_⟩
    walk_at "w"
    refine ⟨WK.sz, fun p np => ?_⟩
    have k1 : Gr [] H (upd H p (.tup [.ty "tuple", .ty "list"])) := Gr.new np
    walk_at "w"
    refine w_isi2 (d := .tuple ds) (.tup (SqT.of (k1.k0 h)) (dpAll_gr k1 _ d1)) upd_same (b1 := true) (b2 := false) (by walk_at "k") (by walk_at "k") ?_
    generalize (upd H p (.tup [.ty "tuple", .ty "list"])) = H1 at *
    walk_at "w"
    refine WK.w_ifP rfl ?_
    refine ⟨_, hσ, c, rfl, ⟨zs, SqT.of (k1.k0 h)⟩, ?_⟩
    exact key _ _ zs _ (walk_tup (K := K) (a := c)) k1 (fun H' g => SqT.of (g.k0 (k1.k0 h))) (fun z hz => (t z hz).any k1) l
  | ls k h l t =>
    rename_i c zs
    obtain ⟨ds, d1, _, _⟩ := ob_all (K := K) fun x hx => (t x hx).dat (K := K)
    refine .inl ?_
    walk_at "w"
    walk_at "i"
    refine ⟨_, hσ, ?_⟩
    walk_at "w"
    refine ⟨WK.sz, fun p np => ?_⟩
    have k1 : Gr [] H (upd H p (.tup [.ty "tuple", .ty "list"])) := Gr.new np
    walk_at "w"
    refine w_isi2 (d := .list ds) (.lst (SqL.of (k1.k0 h)) (dpAll_gr k1 _ d1)) upd_same (b1 := false) (b2 := true) (by walk_at "k") (by walk_at "k") ?_
    generalize (upd H p (.tup [.ty "tuple", .ty "list"])) = H1 at *
    walk_at "w"
    refine WK.w_ifP rfl ?_
    refine ⟨_, hσ, c, rfl, ⟨zs, SqL.of (k1.k0 h)⟩, ?_⟩
    exact key _ _ zs _ (walk_list (K := K) (a := c)) k1 (fun H' g => SqL.of (g.k0 (k1.k0 h))) (fun z hz => (t z hz).any k1) l
  | at_ ha =>
    obtain ⟨d, dp, e1, e2⟩ : ∃ d, Dp K H x d ∧ kitB (tyN d) "tuple" = some false ∧ kitB (tyN d) "list" = some false := by
      cases x with
      | non => exact ⟨_, .non, by walk_at "k", by walk_at "k"⟩
      | bl b => exact ⟨_, .bl b, by walk_at "k", by walk_at "k"⟩
      | int i => exact ⟨_, .int i, by walk_at "k", by walk_at "k"⟩
      | str s => exact ⟨_, .str s, by walk_at "k", by walk_at "k"⟩
      | _ => exact ha.elim
    refine .inl ?_
    walk_at "w"
    walk_at "i"
    refine ⟨_, hσ, ?_⟩
    walk_at "w"
    refine ⟨WK.sz, fun p np => ?_⟩
    have k1 : Gr [] H (upd H p (.tup [.ty "tuple", .ty "list"])) := Gr.new np
    walk_at "w"
    refine w_isi2 (dp_gr k1 _ dp) upd_same (b1 := false) (b2 := false) e1 e2 ?_
    generalize (upd H p (.tup [.ty "tuple", .ty "list"])) = H1 at *
    walk_at "w"
    refine WK.w_ifN (by decide) ?_
    walk_at "w"
    refine ⟨_, hσ, ?_⟩
    walk_at "w"
    refine ⟨WK.sz, fun l nl => ?_⟩
    have k2 : Gr [] H1 (upd H1 l (.lst [x])) := Gr.new nl
    have e3 : (upd H1 l (.lst [x])) l = some (.lst [x]) := upd_same
    generalize (upd H1 l (.lst [x])) = H2 at *
    refine ⟨l, rfl, ⟨[x], SqL.of e3⟩, ?_⟩
    exact key _ _ [x] _ (walk_list (K := K) (a := l)) (k1.trans k2) (fun H' g => SqL.of (g.k0 e3)) (fun z hz => by rw [List.mem_singleton.mp hz]; exact .at_ ha) (by simp)
def spRight : Sp := fun vs H Q _ => ∃ (b : Addr) (m : Nat), vs = [.ref b] ∧ Bx H b (m + 900) ∧ ∀ H', Gr [b] H H' → Bx H' b m → Q (.bl true) H'
abbrev s_law_right : Stmt := topS 27
abbrev N_law_right : List Str := ["_law_box_here", "_law_turn", "_law_table_here", "_law_some", "_law_matter", "_law_due", "_law_row", "_law_again"]
abbrev ps_law_right : List Str := ["_law_box_here"]
theorem sc_law_right : FnScope N_law_right ps_law_right (defScope s_law_right) := ⟨rfl, rfl, rfl, by decide +kernel, rfl, by decide +kernel, by decide +kernel⟩
theorem has_right (D : Df K mg "_law_right" s_law_right ps_law_right) (T : Txt mg) (G_law_same : Has P w K mg base 2 "_law_same" ps_law_same (spSame K 1)) (G_law_drawn : Has P w K mg base 5 "_law_drawn" ps_law_drawn spDrawn) (G_law_take : Has P w K mg base 1 "_law_take" ps_law_take spTake)
    (G_law_bent : Has P w K mg base 3 "_law_bent" ps_law_bent spBent) (G_law_is_whole : Has P w K mg base 3 "_law_is_whole" ps_law_is_whole (spAsk K ttB 4)) (G_law_is_row : Has P w K mg base 2 "_law_is_row" ps_law_is_row (spAsk K evB 3))
    (K_is_timetable : Has1 P w K mg base 4 "is_timetable" ps_is_timetable (spAsk K ttB 4)) (K_is_event : Has1 P w K mg base 3 "is_event" ps_is_event (spAsk K evB 3)) :
    Has P w K mg base 6 "_law_right" ps_law_right spRight := by
  have G_is_timetable := K_is_timetable.has
  have G_is_event := K_is_event.has
  refine Has.mk' D fun f fd F => ?_
  refine F.ok sc_law_right (fun vs H Q E h => ?_) (fun cdv A outer s H vs Q E hr h => ?_)
  · obtain ⟨b, m, rfl, _⟩ := h
    rfl
  · obtain ⟨b, m, rfl, hb, q⟩ := h
    refine ⟨_, (pss_cons (ps_for PassesOwn.never rfl (pi_range1 (by rfl) T.m_range (pa_cons pe_int pa_nil)) (pg_name (i := 1) sc_law_right.nd rfl (Or.inl rfl))
  (pss_cons (ps_set (i := 2) sc_law_right.nd rfl (Or.inr rfl) (pe_callH G_law_drawn (hr.mono (by decide)) (by rfl) (pa_cons (pv 0) (pa_cons pe_int pa_nil))))
  (pss_cons (ps_set (i := 3) sc_law_right.nd rfl (Or.inl rfl) (pe_lst (pa_cons (pv 2) (pa_cons (pe_slice (sl_tupAK (K := K)) (pv 2) po_none (po_some (pe_callH G_law_take (hr.mono (by decide)) (by rfl) (pa_cons (pv 0) (pa_cons (pe_op op_add (pe_callB (call_len_seqK (K := K)) (by rfl) T.m_len (by decide +kernel) (pa_cons (pv 2) pa_nil)) pe_int) pa_nil))))) (pa_cons (pe_tup pa_nil) (pa_cons pe_non (pa_cons pe_bl (pa_cons pe_int (pa_cons pe_str (pa_cons (pe_tup (pa_cons (pe_tup pa_nil) pa_nil)) (pa_cons (pe_tup (pa_cons (pe_tup (pa_cons pe_str pa_nil)) pa_nil)) pa_nil)))))))))))
  (pss_cons (ps_set (i := 3) sc_law_right.nd rfl (Or.inl rfl) (pe_op op_cat (pv 3) (pe_lst (pa_cons (pe_lst (pa_cons (pe_tup (pa_cons pe_str pa_nil)) pa_nil)) (pa_cons (pe_tup (pa_cons (pe_tup (pa_cons pe_str (pa_cons pe_str pa_nil))) pa_nil)) (pa_cons (pe_tup (pa_cons (pe_tup (pa_cons pe_str (pa_cons pe_str pa_nil))) pa_nil)) (pa_cons (pe_tup (pa_cons (pe_tup (pa_cons pe_str (pa_cons pe_str (pa_cons pe_int pa_nil)))) pa_nil)) pa_nil)))))))
  (pss_cons (ps_set (i := 3) sc_law_right.nd rfl (Or.inl rfl) (pe_op op_cat (pv 3) (pe_lc (own := [("_law_again", 7)]) (g := gName 7)  rfl sc_law_right.nd (pi_range1 (by rfl) T.m_range (pa_cons pe_int pa_nil)) (blkOk_by (own := [("_law_again", 7)]) (N := N_law_right) (sc := defScope s_law_right) (by decide +kernel)) (fun _ _ _ _ _ => pg_name (i := 7) sc_law_right.nd rfl (Or.inl rfl)) (fun _ _ _ _ _ => pts_one (pt_cmpR (op_neDK (K := K) hr.units) (pv 2) (pe_tup pa_nil) (nomark _))) (fun _ _ _ _ _ => (pe_callH G_law_bent (hr.mono (by decide)) (by rfl) (pa_cons (pv 0) (pa_cons (pv 2) pa_nil)))))))
  (pss_one (ps_for PassesOwn.never rfl (pi_list (pv 3)) (pg_name (i := 4) sc_law_right.nd rfl (Or.inl rfl))
    (pss_cons (ps_set (i := 5) sc_law_right.nd rfl (Or.inl rfl) (pe_callH G_law_is_whole (hr.mono (by decide)) (by rfl) (pa_cons (pv 4) pa_nil)))
    (pss_cons (ps_if (pt_not (pt_val (pe_callH G_law_same (hr.mono (by decide)) (by rfl) (pa_cons (pe_lst (pa_cons (pe_callH G_is_timetable (hr.mono (by decide)) (by rfl) (pa_cons (pv 4) pa_nil)) (pa_cons (pe_kwH K_is_timetable (hr.mono (by decide)) (by rfl) (pk_cons (pv 4) pk_nil)) pa_nil))) (pa_cons (pe_lst (pa_cons (pv 5) (pa_cons (pv 5) pa_nil))) pa_nil)))))
      (pss_one (ps_ret pe_bl))
      pss_nil)
    (pss_one (ps_for PassesOwn.never rfl (pi_seq (pe_ifExp (pt_val (pe_callB (call_isiTK (K := K)) (by rfl) T.m_isinstance (by decide +kernel) (pa_cons (pv 4) (pa_cons (pe_tup (pa_cons (pe_bltn (v := .ty "tuple") (by rfl) T.m_tuple (by decide +kernel) rfl) (pa_cons (pe_bltn (v := .ty "list") (by rfl) T.m_list (by decide +kernel) rfl) pa_nil))) pa_nil)))) (pv 4) (pe_lst (pa_cons (pv 4) pa_nil)))) (pg_name (i := 6) sc_law_right.nd rfl (Or.inl rfl))
      (pss_one (ps_if (pt_not (pt_val (pe_callH G_law_same (hr.mono (by decide)) (by rfl) (pa_cons (pe_lst (pa_cons (pe_callH G_is_event (hr.mono (by decide)) (by rfl) (pa_cons (pv 6) pa_nil)) (pa_cons (pe_kwH K_is_event (hr.mono (by decide)) (by rfl) (pk_cons (pv 6) pk_nil)) pa_nil))) (pa_cons (pe_op op_rep (pe_lst (pa_cons (pe_callH G_law_is_row (hr.mono (by decide)) (by rfl) (pa_cons (pv 6) pa_nil)) pa_nil)) pe_int) pa_nil)))))
        (pss_one (ps_ret pe_bl))
        pss_nil)))))))))))))
(pss_one (ps_ret pe_bl))), ?_⟩
    walk_at "w"
    refine ⟨by omega, by omega, ?_⟩
    refine lp_range (n := 3) (fun i σ' H' => ∃ y1 y2 y3 y4 y5 y6 y7, σ' = [some (.ref b), y1, y2, y3, y4, y5, y6, y7] ∧ Gr [b] H H' ∧ Bx H' b (m + (3 - i) * 300))
      ⟨none, none, none, none, none, none, none, rfl, Gr.refl _ _, hb.mono (by omega)⟩ ?_ ?_
    · rintro i _ H0 hi ⟨y1, y2, y3, y4, y5, y6, y7, rfl, g0, hb0⟩
      obtain ⟨r, hr'⟩ : ∃ r, m + (3 - i) * 300 = (m + (3 - (i + 1)) * 300 + r) + 300 := ⟨0, by omega⟩
      obtain rfl : r = 0 := by omega
      generalize eM : m + (3 - (i + 1)) * 300 = M at *
      rw [hr', Nat.add_zero] at hb0
      walk_at "w"
      refine ⟨b, M + 80, 6, rfl, hb0.mono (by omega), by omega, by omega, fun v H1 es g1 hb1 htt hval hok hlen => ?_⟩
      obtain ⟨a, xs, rfl, ha, hev⟩ := htt
      have hxl : xs.length = es.length := hev.length
      walk_at "w"
      refine w_lenT ha ?_
      walk_at "w"
      refine use_take (n := M + 79) hb1 (by omega) (by omega) (fun r1 H2 r10 r11 g2 hb2 => ?_)
      have g02 := (g0.trans g1).trans g2
      have ha2 := g2.tup _ _ ha
      have hev2 := hev.gr g2
      walk_at "w"
      refine w_slS ha2 fun p1 H3 g3 e1 => ?_
      walk_at "w"
      have hb3 := hb2.keep g3 (by simp)
      have hE : ∀ (H' : Hp) (M : List Addr), Gr M H2 H' → ∀ x ∈ xs, Ob (fun x => x ≠ b) H' 3 x := fun H' M g x hx => by
        obtain ⟨e, he, hv⟩ := mem_of_pr hev2 hx
        exact (ob_ev (hv.gr g) (Ev.ok_kok (hok e he))).up.up
      have o_a : Ob (fun x => x ≠ b) H3 4 (.ref a) := .tp (g3.tup _ _ ha2) (by omega) (hE _ _ g3)
      have o_p : Ob (fun x => x ≠ b) H3 4 (.ref p1) := .tp e1 (Nat.le_trans (cutV_length _ _ _) (by omega)) fun x hx => hE _ _ g3 x (cut_mem hx)
      refine ⟨WK.sz, fun t0 n_t0 => ?_⟩
      have g4 : Gr [] H3 (upd H3 t0 (.tup [])) := Gr.new n_t0
      have hb4 := hb3.keep g4 (by simp)
      have o_t0 : Ob (fun x => x ≠ b) (upd H3 t0 (.tup [])) 1 (.ref t0) := ob_tup n_t0 (by simp) (by
        intro x hx
        cases hx)
      have o_a := o_a.g0 g4
      have o_p := o_p.g0 g4
      have e_t0 : (upd H3 t0 (.tup [])) t0 = some (.tup []) := upd_same
      generalize (upd H3 t0 (.tup [])) = H4 at *
      walk_at "w"
      refine ⟨WK.sz, fun t1 n_t1 => ?_⟩
      have g5 : Gr [] H4 (upd H4 t1 (.tup [])) := Gr.new n_t1
      have hb5 := hb4.keep g5 (by simp)
      have o_t1 : Ob (fun x => x ≠ b) (upd H4 t1 (.tup [])) 1 (.ref t1) := ob_tup n_t1 (by simp) (by
        intro x hx
        cases hx)
      have o_a := o_a.g0 g5
      have o_p := o_p.g0 g5
      have o_t0 := o_t0.g0 g5
      have e_t1 : (upd H4 t1 (.tup [])) t1 = some (.tup []) := upd_same
      generalize (upd H4 t1 (.tup [])) = H5 at *
      walk_at "w"
      refine ⟨WK.sz, fun t2 n_t2 => ?_⟩
      have g6 : Gr [] H5 (upd H5 t2 (.tup [.ref t1])) := Gr.new n_t2
      have hb6 := hb5.keep g6 (by simp)
      have o_t2 : Ob (fun x => x ≠ b) (upd H5 t2 (.tup [.ref t1])) 2 (.ref t2) := ob_tup n_t2 (by simp) (by
        intro x hx
        simp only [List.mem_cons, List.not_mem_nil, or_false] at hx
        rw [hx]; exact o_t1)
      have o_a := o_a.g0 g6
      have o_p := o_p.g0 g6
      have o_t0 := o_t0.g0 g6
      have o_t1 := o_t1.g0 g6
      have e_t2 : (upd H5 t2 (.tup [.ref t1])) t2 = some (.tup [.ref t1]) := upd_same
      generalize (upd H5 t2 (.tup [.ref t1])) = H6 at *
      walk_at "w"
      refine ⟨WK.sz, fun t3 n_t3 => ?_⟩
      have g7 : Gr [] H6 (upd H6 t3 (.tup [.str "wait"])) := Gr.new n_t3
      have hb7 := hb6.keep g7 (by simp)
      have o_t3 : Ob (fun x => x ≠ b) (upd H6 t3 (.tup [.str "wait"])) 1 (.ref t3) := ob_tup n_t3 (by simp) (by
        intro x hx
        simp only [List.mem_cons, List.not_mem_nil, or_false] at hx
        rw [hx]; exact at_words _ (by simp))
      have o_a := o_a.g0 g7
      have o_p := o_p.g0 g7
      have o_t0 := o_t0.g0 g7
      have o_t1 := o_t1.g0 g7
      have o_t2 := o_t2.g0 g7
      have e_t3 : (upd H6 t3 (.tup [.str "wait"])) t3 = some (.tup [.str "wait"]) := upd_same
      generalize (upd H6 t3 (.tup [.str "wait"])) = H7 at *
      walk_at "w"
      refine ⟨WK.sz, fun t4 n_t4 => ?_⟩
      have g8 : Gr [] H7 (upd H7 t4 (.tup [.ref t3])) := Gr.new n_t4
      have hb8 := hb7.keep g8 (by simp)
      have o_t4 : Ob (fun x => x ≠ b) (upd H7 t4 (.tup [.ref t3])) 2 (.ref t4) := ob_tup n_t4 (by simp) (by
        intro x hx
        simp only [List.mem_cons, List.not_mem_nil, or_false] at hx
        rw [hx]; exact o_t3)
      have o_a := o_a.g0 g8
      have o_p := o_p.g0 g8
      have o_t0 := o_t0.g0 g8
      have o_t1 := o_t1.g0 g8
      have o_t2 := o_t2.g0 g8
      have o_t3 := o_t3.g0 g8
      have e_t4 : (upd H7 t4 (.tup [.ref t3])) t4 = some (.tup [.ref t3]) := upd_same
      generalize (upd H7 t4 (.tup [.ref t3])) = H8 at *
      walk_at "w"
      refine ⟨WK.sz, fun L1 n_L1 => ?_⟩
      have g9 : Gr [] H8 (upd H8 L1 (.lst [.ref a, .ref p1, .ref t0, .non, .bl true, .int 0, .str "wait", .ref t2, .ref t4])) := Gr.new n_L1
      have hb9 := hb8.keep g9 (by simp)
      have o_a := o_a.g0 g9
      have o_p := o_p.g0 g9
      have o_t0 := o_t0.g0 g9
      have o_t1 := o_t1.g0 g9
      have o_t2 := o_t2.g0 g9
      have o_t3 := o_t3.g0 g9
      have o_t4 := o_t4.g0 g9
      have e_L1 : (upd H8 L1 (.lst [.ref a, .ref p1, .ref t0, .non, .bl true, .int 0, .str "wait", .ref t2, .ref t4])) L1 = some (.lst [.ref a, .ref p1, .ref t0, .non, .bl true, .int 0, .str "wait", .ref t2, .ref t4]) := upd_same
      generalize (upd H8 L1 (.lst [.ref a, .ref p1, .ref t0, .non, .bl true, .int 0, .str "wait", .ref t2, .ref t4])) = H9 at *
      walk_at "w"
      refine ⟨WK.sz, fun t6 n_t6 => ?_⟩
      have g10 : Gr [] H9 (upd H9 t6 (.tup [.str "wait"])) := Gr.new n_t6
      have hb10 := hb9.keep g10 (by simp)
      have o_t6 : Ob (fun x => x ≠ b) (upd H9 t6 (.tup [.str "wait"])) 1 (.ref t6) := ob_tup n_t6 (by simp) (by
        intro x hx
        simp only [List.mem_cons, List.not_mem_nil, or_false] at hx
        rw [hx]; exact at_words _ (by simp))
      have o_a := o_a.g0 g10
      have o_p := o_p.g0 g10
      have o_t0 := o_t0.g0 g10
      have o_t1 := o_t1.g0 g10
      have o_t2 := o_t2.g0 g10
      have o_t3 := o_t3.g0 g10
      have o_t4 := o_t4.g0 g10
      have e_t6 : (upd H9 t6 (.tup [.str "wait"])) t6 = some (.tup [.str "wait"]) := upd_same
      generalize (upd H9 t6 (.tup [.str "wait"])) = H10 at *
      walk_at "w"
      refine ⟨WK.sz, fun t5 n_t5 => ?_⟩
      have nb_t5 : t5 ≠ b := fun z => by
        obtain ⟨_, zz⟩ := hb10.lst
        rw [← z, n_t5] at zz
        cases zz
      have g11 : Gr [] H10 (upd H10 t5 (.lst [.ref t6])) := Gr.new n_t5
      have hb11 := hb10.keep g11 (by simp)
      have o_t5 : Ob (fun x => x ≠ b) (upd H10 t5 (.lst [.ref t6])) 2 (.ref t5) := ob_lst nb_t5 n_t5 (by simp) (by
        intro x hx
        simp only [List.mem_cons, List.not_mem_nil, or_false] at hx
        rw [hx]; exact o_t6)
      have o_a := o_a.g0 g11
      have o_p := o_p.g0 g11
      have o_t0 := o_t0.g0 g11
      have o_t1 := o_t1.g0 g11
      have o_t2 := o_t2.g0 g11
      have o_t3 := o_t3.g0 g11
      have o_t4 := o_t4.g0 g11
      have o_t6 := o_t6.g0 g11
      have e_t5 : (upd H10 t5 (.lst [.ref t6])) t5 = some (.lst [.ref t6]) := upd_same
      generalize (upd H10 t5 (.lst [.ref t6])) = H11 at *
      walk_at "w"
      refine ⟨WK.sz, fun t7 n_t7 => ?_⟩
      have g12 : Gr [] H11 (upd H11 t7 (.tup [.str "drop", .str "a1"])) := Gr.new n_t7
      have hb12 := hb11.keep g12 (by simp)
      have o_t7 : Ob (fun x => x ≠ b) (upd H11 t7 (.tup [.str "drop", .str "a1"])) 1 (.ref t7) := ob_tup n_t7 (by simp) (by
        intro x hx
        simp only [List.mem_cons, List.not_mem_nil, or_false] at hx
        rcases hx with rfl | rfl <;> exact at_words _ (by simp))
      have o_a := o_a.g0 g12
      have o_p := o_p.g0 g12
      have o_t0 := o_t0.g0 g12
      have o_t1 := o_t1.g0 g12
      have o_t2 := o_t2.g0 g12
      have o_t3 := o_t3.g0 g12
      have o_t4 := o_t4.g0 g12
      have o_t6 := o_t6.g0 g12
      have o_t5 := o_t5.g0 g12
      have e_t7 : (upd H11 t7 (.tup [.str "drop", .str "a1"])) t7 = some (.tup [.str "drop", .str "a1"]) := upd_same
      generalize (upd H11 t7 (.tup [.str "drop", .str "a1"])) = H12 at *
      walk_at "w"
      refine ⟨WK.sz, fun t8 n_t8 => ?_⟩
      have g13 : Gr [] H12 (upd H12 t8 (.tup [.ref t7])) := Gr.new n_t8
      have hb13 := hb12.keep g13 (by simp)
      have o_t8 : Ob (fun x => x ≠ b) (upd H12 t8 (.tup [.ref t7])) 2 (.ref t8) := ob_tup n_t8 (by simp) (by
        intro x hx
        simp only [List.mem_cons, List.not_mem_nil, or_false] at hx
        rw [hx]; exact o_t7)
      have o_a := o_a.g0 g13
      have o_p := o_p.g0 g13
      have o_t0 := o_t0.g0 g13
      have o_t1 := o_t1.g0 g13
      have o_t2 := o_t2.g0 g13
      have o_t3 := o_t3.g0 g13
      have o_t4 := o_t4.g0 g13
      have o_t6 := o_t6.g0 g13
      have o_t5 := o_t5.g0 g13
      have o_t7 := o_t7.g0 g13
      have e_t8 : (upd H12 t8 (.tup [.ref t7])) t8 = some (.tup [.ref t7]) := upd_same
      generalize (upd H12 t8 (.tup [.ref t7])) = H13 at *
      walk_at "w"
      refine ⟨WK.sz, fun t9 n_t9 => ?_⟩
      have g14 : Gr [] H13 (upd H13 t9 (.tup [.str "drop", .str "a b"])) := Gr.new n_t9
      have hb14 := hb13.keep g14 (by simp)
      have o_t9 : Ob (fun x => x ≠ b) (upd H13 t9 (.tup [.str "drop", .str "a b"])) 1 (.ref t9) := ob_tup n_t9 (by simp) (by
        intro x hx
        simp only [List.mem_cons, List.not_mem_nil, or_false] at hx
        rcases hx with rfl | rfl <;> exact at_words _ (by simp))
      have o_a := o_a.g0 g14
      have o_p := o_p.g0 g14
      have o_t0 := o_t0.g0 g14
      have o_t1 := o_t1.g0 g14
      have o_t2 := o_t2.g0 g14
      have o_t3 := o_t3.g0 g14
      have o_t4 := o_t4.g0 g14
      have o_t6 := o_t6.g0 g14
      have o_t5 := o_t5.g0 g14
      have o_t7 := o_t7.g0 g14
      have o_t8 := o_t8.g0 g14
      have e_t9 : (upd H13 t9 (.tup [.str "drop", .str "a b"])) t9 = some (.tup [.str "drop", .str "a b"]) := upd_same
      generalize (upd H13 t9 (.tup [.str "drop", .str "a b"])) = H14 at *
      walk_at "w"
      refine ⟨WK.sz, fun t10 n_t10 => ?_⟩
      have g15 : Gr [] H14 (upd H14 t10 (.tup [.ref t9])) := Gr.new n_t10
      have hb15 := hb14.keep g15 (by simp)
      have o_t10 : Ob (fun x => x ≠ b) (upd H14 t10 (.tup [.ref t9])) 2 (.ref t10) := ob_tup n_t10 (by simp) (by
        intro x hx
        simp only [List.mem_cons, List.not_mem_nil, or_false] at hx
        rw [hx]; exact o_t9)
      have o_a := o_a.g0 g15
      have o_p := o_p.g0 g15
      have o_t0 := o_t0.g0 g15
      have o_t1 := o_t1.g0 g15
      have o_t2 := o_t2.g0 g15
      have o_t3 := o_t3.g0 g15
      have o_t4 := o_t4.g0 g15
      have o_t6 := o_t6.g0 g15
      have o_t5 := o_t5.g0 g15
      have o_t7 := o_t7.g0 g15
      have o_t8 := o_t8.g0 g15
      have o_t9 := o_t9.g0 g15
      have e_t10 : (upd H14 t10 (.tup [.ref t9])) t10 = some (.tup [.ref t9]) := upd_same
      generalize (upd H14 t10 (.tup [.ref t9])) = H15 at *
      walk_at "w"
      refine ⟨WK.sz, fun t11 n_t11 => ?_⟩
      have g16 : Gr [] H15 (upd H15 t11 (.tup [.str "put", .str "x9", .int 0])) := Gr.new n_t11
      have hb16 := hb15.keep g16 (by simp)
      have o_t11 : Ob (fun x => x ≠ b) (upd H15 t11 (.tup [.str "put", .str "x9", .int 0])) 1 (.ref t11) := ob_tup n_t11 (by simp) (by
        intro x hx
        simp only [List.mem_cons, List.not_mem_nil, or_false] at hx
        rcases hx with rfl | rfl | rfl
        · exact at_words _ (by simp)
        · exact at_words _ (by simp)
        · exact .at_ trivial)
      have o_a := o_a.g0 g16
      have o_p := o_p.g0 g16
      have o_t0 := o_t0.g0 g16
      have o_t1 := o_t1.g0 g16
      have o_t2 := o_t2.g0 g16
      have o_t3 := o_t3.g0 g16
      have o_t4 := o_t4.g0 g16
      have o_t6 := o_t6.g0 g16
      have o_t5 := o_t5.g0 g16
      have o_t7 := o_t7.g0 g16
      have o_t8 := o_t8.g0 g16
      have o_t9 := o_t9.g0 g16
      have o_t10 := o_t10.g0 g16
      have e_t11 : (upd H15 t11 (.tup [.str "put", .str "x9", .int 0])) t11 = some (.tup [.str "put", .str "x9", .int 0]) := upd_same
      generalize (upd H15 t11 (.tup [.str "put", .str "x9", .int 0])) = H16 at *
      walk_at "w"
      refine ⟨WK.sz, fun t12 n_t12 => ?_⟩
      have g17 : Gr [] H16 (upd H16 t12 (.tup [.ref t11])) := Gr.new n_t12
      have hb17 := hb16.keep g17 (by simp)
      have o_t12 : Ob (fun x => x ≠ b) (upd H16 t12 (.tup [.ref t11])) 2 (.ref t12) := ob_tup n_t12 (by simp) (by
        intro x hx
        simp only [List.mem_cons, List.not_mem_nil, or_false] at hx
        rw [hx]; exact o_t11)
      have o_a := o_a.g0 g17
      have o_p := o_p.g0 g17
      have o_t0 := o_t0.g0 g17
      have o_t1 := o_t1.g0 g17
      have o_t2 := o_t2.g0 g17
      have o_t3 := o_t3.g0 g17
      have o_t4 := o_t4.g0 g17
      have o_t6 := o_t6.g0 g17
      have o_t5 := o_t5.g0 g17
      have o_t7 := o_t7.g0 g17
      have o_t8 := o_t8.g0 g17
      have o_t9 := o_t9.g0 g17
      have o_t10 := o_t10.g0 g17
      have o_t11 := o_t11.g0 g17
      have e_t12 : (upd H16 t12 (.tup [.ref t11])) t12 = some (.tup [.ref t11]) := upd_same
      generalize (upd H16 t12 (.tup [.ref t11])) = H17 at *
      walk_at "w"
      refine ⟨WK.sz, fun L2 n_L2 => ?_⟩
      have g18 : Gr [] H17 (upd H17 L2 (.lst [.ref t5, .ref t8, .ref t10, .ref t12])) := Gr.new n_L2
      have hb18 := hb17.keep g18 (by simp)
      have o_a := o_a.g0 g18
      have o_p := o_p.g0 g18
      have o_t0 := o_t0.g0 g18
      have o_t1 := o_t1.g0 g18
      have o_t2 := o_t2.g0 g18
      have o_t3 := o_t3.g0 g18
      have o_t4 := o_t4.g0 g18
      have o_t6 := o_t6.g0 g18
      have o_t5 := o_t5.g0 g18
      have o_t7 := o_t7.g0 g18
      have o_t8 := o_t8.g0 g18
      have o_t9 := o_t9.g0 g18
      have o_t10 := o_t10.g0 g18
      have o_t11 := o_t11.g0 g18
      have o_t12 := o_t12.g0 g18
      have e_L2 : (upd H17 L2 (.lst [.ref t5, .ref t8, .ref t10, .ref t12])) L2 = some (.lst [.ref t5, .ref t8, .ref t10, .ref t12]) := upd_same
      generalize (upd H17 L2 (.lst [.ref t5, .ref t8, .ref t10, .ref t12])) = H18 at *
      walk_at "w"
      have e_L1' := ((((((((g10.trans g11).trans g12).trans g13).trans g14).trans g15).trans g16).trans g17).trans g18).k0 e_L1
      refine ⟨L1, L2, [.ref a, .ref p1, .ref t0, .non, .bl true, .int 0, .str "wait", .ref t2, .ref t4], [.ref t5, .ref t8, .ref t10, .ref t12], rfl, rfl, e_L1', e_L2, WK.sz, fun L3 n_L3 => ?_⟩
      obtain ⟨os, eos⟩ : ∃ os, os = ([.ref a, .ref p1, .ref t0, .non, .bl true, .int 0, .str "wait", .ref t2, .ref t4] : List V) ++ [.ref t5, .ref t8, .ref t10, .ref t12] := ⟨_, rfl⟩
      rw [← eos]
      have g19 : Gr [] H18 (upd H18 L3 (.lst os)) := Gr.new n_L3
      have hb19 := hb18.keep g19 (by simp)
      have o_a := o_a.g0 g19
      have o_p := o_p.g0 g19
      have o_t0 := o_t0.g0 g19
      have o_t1 := o_t1.g0 g19
      have o_t2 := o_t2.g0 g19
      have o_t3 := o_t3.g0 g19
      have o_t4 := o_t4.g0 g19
      have o_t6 := o_t6.g0 g19
      have o_t5 := o_t5.g0 g19
      have o_t7 := o_t7.g0 g19
      have o_t8 := o_t8.g0 g19
      have o_t9 := o_t9.g0 g19
      have o_t10 := o_t10.g0 g19
      have o_t11 := o_t11.g0 g19
      have o_t12 := o_t12.g0 g19
      have e_L3 : (upd H18 L3 (.lst os)) L3 = some (.lst os) := upd_same
      have nb_L3 : L3 ≠ b := fun z => by
        obtain ⟨_, zz⟩ := hb18.lst
        rw [← z, n_L3] at zz
        cases zz
      generalize (upd H18 L3 (.lst os)) = H19 at *
      have oos : ∀ x ∈ os, Ob (fun x => x ≠ b) H19 4 x := fun x hx => by
        rw [eos] at hx
        simp only [List.cons_append, List.nil_append, List.mem_cons, List.not_mem_nil, or_false] at hx
        rcases hx with rfl | rfl | rfl | rfl | rfl | rfl | rfl | rfl | rfl | rfl | rfl | rfl | rfl
        · exact o_a
        · exact o_p
        · exact o_t0.up.up.up
        · exact .at_ trivial
        · exact .at_ trivial
        · exact .at_ trivial
        · exact at_words _ (by simp)
        · exact o_t2.up.up
        · exact o_t4.up.up
        · exact o_t5.up.up
        · exact o_t8.up.up
        · exact o_t10.up.up
        · exact o_t12.up.up
      have gJ : Gr [] H2 H19 := ((((((((((((((((g3.trans g4).trans g5).trans g6).trans g7).trans g8).trans g9).trans g10).trans g11).trans g12).trans g13).trans g14).trans g15).trans g16).trans g17).trans g18).trans g19)
      walk_at "w"
      refine ⟨by omega, by omega, ?_⟩
      refine lc_go (walk_range (lo := 0) (n := (14 : Int).toNat)) (fun Dn j acc H' => Gr [b] H19 H' ∧ Bx H' b (M + 20 + (14 - j) * 4) ∧ ∀ y ∈ acc, Ob (fun x => x ≠ b ∧ x ≠ Dn) H' 4 y) (fun Dn nD => ⟨Gr.new nD, (hb19.keep (Gr.new (M := []) nD) (by simp)).mono (by omega), by simp⟩) (fun _ _ _ _ _ _ => trivial) ?_ ?_
      · rintro Dn j acc x HA0 HA nD hj hD la ⟨gA, hbA, oA⟩ ⟨rfl, rfl⟩
        have jl : j < 14 := hj
        walk_at "w"
        refine ⟨rfl, ?_⟩
        walk_at "w"
        refine ⟨WK.sz, fun t nt => ?_⟩
        walk_at "w"
        have kt : Gr [] HA (upd HA t (.tup [])) := Gr.new nt
        have et : (upd HA t (.tup [])) t = some (.tup []) := upd_same
        have hbB := hbA.keep kt (by simp)
        have hDB := kt.k0 hD
        have oB : ∀ y ∈ acc, Ob (fun x => x ≠ b ∧ x ≠ Dn) (upd HA t (.tup [])) 4 y := fun y hy => (oA y hy).g0 kt
        generalize (upd HA t (.tup [])) = HB at *
        have g2B : Gr [b] H2 HB := ((gJ.mono (by simp)).trans gA).trans (kt.mono (by simp))
        have g19B : Gr [b] H19 HB := gA.trans (kt.mono (by simp))
        have haB := g2B.tup _ _ ha2
        have hevB := hev2.gr g2B
        refine w_neTup0 (n := 1) (SqT.of haB) (evs_dp hevB fun e he => Ev.ok_kok (hok e he)) (evs_sh fun e he => Ev.ok_kok (hok e he)) (by omega) et ?_
        walk_at "w"
        by_cases hne : xs = []
        · have : es = [] := List.length_eq_zero_iff.mp (by rw [← hxl, hne]; rfl)
          refine WK.w_ifN (by rw [this]; simp) ?_
          exact lc_no hDB la ⟨g19B, hbB.mono (by omega), oB⟩
        · have : es ≠ [] := fun e => hne (List.length_eq_zero_iff.mp (by rw [hxl, e]; rfl))
          refine WK.w_ifP (by cases es with | nil => exact (this rfl).elim | cons _ _ => rfl) ?_
          walk_at "w"
          refine ⟨b, a, xs, es, M + 20 + (14 - (j + 1)) * 4, rfl, hbB.mono (by omega), haB, hevB, fun e he => Ev.ok_kok (hok e he), hne, by omega, fun v HC gC hbC oC => ?_⟩
          have bD : Dn ≠ b := fun e => by
            obtain ⟨_, z⟩ := hb19.lst
            rw [← e, nD] at z
            cases z
          have hDC := gC.k1 hDB bD
          have g19C := g19B.trans gC
          have gD : Gr [Dn] HC (upd HC Dn (.lst (acc ++ [v]))) := Gr.mutL hDC (by simp)
          refine lc_yes hDC la (by omega) ⟨g19C.own (gD.mono (by simp)) nD, hbC.keep gD (by simpa using bD.symm), fun y hy => ?_⟩
          rcases List.mem_append.mp hy with hy | hy
          · exact ((oB y hy).gr (N' := fun x => x ≠ b ∧ x ≠ Dn) gC (fun x hx => by simpa using hx.1) fun _ h => h).gr gD (fun x hx => by simpa using hx.2) fun _ h => h
          · rw [List.mem_singleton.mp hy]
            refine oC.gr gD (fun x hx => ?_) fun x hx => ⟨fun e => ?_, fun e => ?_⟩
            · intro hm
              rw [List.mem_singleton.mp hm, hDB] at hx
              cases hx
            · obtain ⟨_, z⟩ := hbB.lst
              rw [e, z] at hx
              cases hx
            · rw [e, hDB] at hx
              cases hx
      · rintro Dn acc HA nD hD la ⟨gA, hbA, oA⟩
        have eA : HA L3 = some (.lst os) := gA.k1 e_L3 nb_L3
        refine ⟨L3, Dn, os, acc, rfl, rfl, eA, hD, WK.sz (by rw [eos]; simp only [List.length_append, List.length_cons, List.length_nil]; have : acc.length ≤ 14 := la; omega), fun L4 n_L4 => ?_⟩
        obtain ⟨items, eit⟩ : ∃ items, items = os ++ acc := ⟨_, rfl⟩
        rw [← eit]
        have kB : Gr [] HA (upd HA L4 (.lst items)) := Gr.new n_L4
        have e_L4 : (upd HA L4 (.lst items)) L4 = some (.lst items) := upd_same
        have hbB := hbA.keep kB (by simp)
        have oit : ∀ x ∈ items, Ob (fun x => x ≠ b) (upd HA L4 (.lst items)) 4 x := fun x hx => by
          rw [eit] at hx
          rcases List.mem_append.mp hx with hx | hx
          · exact ((oos x hx).gr gA (fun z hz => by simpa using hz) fun _ h => h).g0 kB
          · exact (oA x hx).gr kB (fun _ _ => by simp) fun _ h => h.1
        generalize (upd HA L4 (.lst items)) = HL at *
        have gHL : Gr [b] H HL := ((g02.trans (gJ.mono (by simp))).trans gA).trans (kB.mono (by simp))
        walk_at "w"
        refine ⟨⟨items, SqL.of e_L4⟩, ?_⟩
        refine lp_list (xs := items) (fun j σ' H' => ∃ y4 y5 y6 y7, σ' = [some (.ref b), some (.int (0 + (i : Nat))), some (.ref a), some (.ref L4), y4, y5, y6, y7] ∧ Gr [] HL H')
          ⟨y4, y5, y6, y7, rfl, Gr.refl _ _⟩ (fun j σ' H' _ ⟨_, _, _, _, _, g⟩ => SqL.of (g.k0 e_L4)) ?_ ?_
        · rintro j x _ H1 hx ⟨z4, z5, z6, z7, rfl, k0⟩
          have ox : Ob (fun x => x ≠ b) H1 4 x := (oit x (List.mem_of_getElem? hx)).g0 k0
          obtain ⟨d, dp, fb⟩ := ox.dat (K := K)
          walk_at "w"
          refine ⟨x, d, rfl, dp, fb, fun H2 k1 => ?_⟩
          walk_at "w"
          walk_at "i"
          refine ⟨x, d, rfl, dp_gr k1 _ dp, fb, fun H3 k2 => ?_⟩
          have k12 := k1.trans k2
          walk_at "w"
          refine WK.w_kw ?_
          walk_at "w"
          refine ⟨x, d, rfl, dp_gr k12 _ dp, fb, fun H4 k3 => ?_⟩
          have k13 := k12.trans k3
          walk_at "w"
          refine ⟨WK.sz, fun la nla => ?_⟩
          have k4 : Gr [] H4 (upd H4 la (.lst [.bl (ttB d), .bl (ttB d)])) := Gr.new nla
          have ea : (upd H4 la (.lst [.bl (ttB d), .bl (ttB d)])) la = some (.lst [.bl (ttB d), .bl (ttB d)]) := upd_same
          generalize (upd H4 la (.lst [.bl (ttB d), .bl (ttB d)])) = H5 at *
          walk_at "w"
          refine ⟨WK.sz, fun lb nlb => ?_⟩
          have k5 : Gr [] H5 (upd H5 lb (.lst [.bl (ttB d), .bl (ttB d)])) := Gr.new nlb
          have eb : (upd H5 lb (.lst [.bl (ttB d), .bl (ttB d)])) lb = some (.lst [.bl (ttB d), .bl (ttB d)]) := upd_same
          have ea := k5.k0 ea
          generalize (upd H5 lb (.lst [.bl (ttB d), .bl (ttB d)])) = H6 at *
          have k15 := (k13.trans k4).trans k5
          walk_at "w"
          refine ⟨.ref la, .ref lb, _, rfl, twins ea, twins eb, twins_fine, by omega, fun H7 k6 => ?_⟩
          have k16 := k15.trans k6
          walk_at "w"
          refine WK.w_ifN (by decide) ?_
          walk_at "w"
          refine seq_any (x := x) rfl (ox.g0 k16) fun J G zs H8 wk k7 hG oz lz => ?_
          have k07 := (k0.trans k16).trans k7
          refine lp_it wk (fun j σ' H' => ∃ y6, σ' = [some (.ref b), some (.int (0 + (i : Nat))), some (.ref a), some (.ref L4), some x, some (.bl (ttB d)), y6, z7] ∧ Gr [] H8 H')
            ⟨z6, rfl, Gr.refl _ _⟩ (fun j σ' H' _ ⟨_, _, g⟩ => hG _ g) ?_ ?_
          · rintro j2 y _ H9x H9 hj2 ⟨y6', rfl, k8⟩ ⟨rfl, hy⟩
            have oy : Ob (fun _ => True) H9 3 y := (oz y (List.mem_of_getElem? hy)).g0 k8
            obtain ⟨d2, ep, fe⟩ := oy.dat (K := K)
            walk_at "w"
            walk_at "i"
            refine ⟨y, d2, rfl, ep, fe, fun I1 m1 => ?_⟩
            walk_at "w"
            refine WK.w_kw ?_
            walk_at "w"
            refine ⟨y, d2, rfl, dp_gr m1 _ ep, fe, fun I2 m2 => ?_⟩
            have m12 := m1.trans m2
            walk_at "w"
            refine ⟨WK.sz, fun lc nlc => ?_⟩
            have m3 : Gr [] I2 (upd I2 lc (.lst [.bl (evB d2), .bl (evB d2)])) := Gr.new nlc
            have ec : (upd I2 lc (.lst [.bl (evB d2), .bl (evB d2)])) lc = some (.lst [.bl (evB d2), .bl (evB d2)]) := upd_same
            generalize (upd I2 lc (.lst [.bl (evB d2), .bl (evB d2)])) = I3 at *
            have m13 := m12.trans m3
            walk_at "w"
            refine ⟨y, d2, rfl, dp_gr m13 _ ep, fe, fun I4 m4 => ?_⟩
            have m14 := m13.trans m4
            have ec := m4.k0 ec
            walk_at "w"
            refine ⟨WK.sz, fun ld nld => ?_⟩
            have m5 : Gr [] I4 (upd I4 ld (.lst [.bl (evB d2)])) := Gr.new nld
            have ed : (upd I4 ld (.lst [.bl (evB d2)])) ld = some (.lst [.bl (evB d2)]) := upd_same
            have ec := m5.k0 ec
            generalize (upd I4 ld (.lst [.bl (evB d2)])) = I5 at *
            walk_at "w"
            refine ⟨ld, 2, _, rfl, rfl, ed, by omega, by omega, WK.sz (by simp), fun le nle => ?_⟩
            have m6 : Gr [] I5 (upd I5 le (.lst (List.replicate (2 : Int).toNat [V.bl (evB d2)]).flatten)) := Gr.new nle
            have ee : (upd I5 le (.lst (List.replicate (2 : Int).toNat [V.bl (evB d2)]).flatten)) le = some (.lst [.bl (evB d2), .bl (evB d2)]) := upd_same
            have ec := m6.k0 ec
            generalize (upd I5 le (.lst (List.replicate (2 : Int).toNat [V.bl (evB d2)]).flatten)) = I6 at *
            have m16 := (m14.trans m5).trans m6
            walk_at "w"
            refine ⟨.ref lc, .ref le, _, rfl, twins ec, twins ee, twins_fine, by omega, fun I7 m7 => ?_⟩
            walk_at "w"
            refine WK.w_ifN (by decide) ?_
            walk_at "w"
            exact ⟨_, rfl, k8.trans (m16.trans m7)⟩
          · rintro σ3 H9 ⟨y6', rfl, k8⟩
            exact ⟨_, _, _, _, rfl, k07.trans k8⟩
        · rintro σ3 H9 ⟨z4, z5, z6, z7, rfl, k0⟩
          exact ⟨_, _, _, _, _, _, _, rfl, gHL.trans (k0.mono (by simp)), (hbB.keep k0 (by simp)).mono (by omega)⟩
    · rintro σ2 H2 ⟨y1, y2, y3, y4, y5, y6, y7, rfl, g2, hb2⟩
      walk_at "w"
      exact q _ g2 (hb2.mono (by omega))

end
end PK
namespace PK
open PySem L2
section
variable {P : Program} {w : World} {K : PySem.W.Frag} {mg : Str → Option Value} {base : Heap}
abbrev s_law : Stmt := topS 28
abbrev N_law : List Str := ["_law_script", "_law_k"]
abbrev ps_law : List Str := ["_law_script"]
theorem sc_law : FnScope N_law ps_law (defScope s_law) := ⟨rfl, rfl, rfl, by decide +kernel, rfl, by decide +kernel, by decide +kernel⟩
def spLaw (K : PySem.W.Frag) : Sp := fun vs H Q _ => ∃ (a : Addr) (ns : List Int), vs = [.ref a] ∧ SqL K H a (ns.map V.int) ∧ ns.length ≤ 63 ∧ ∀ H', Q (.bl true) H'
theorem ok_law {f : Addr} {fd : FuncData} (F : Fun K "law" "law" s_law f fd) (T : Txt mg) (G_law_box : Has P w K mg base 1 "_law_box" ps_law_box (spBox K)) (G_law_right : Has P w K mg base 6 "_law_right" ps_law_right spRight) : FnOk P w K mg base CX0 7 f fd ps_law (spLaw K) := by
  refine F.ok sc_law (fun vs H Q E h => ?_) (fun cdv A outer s H vs Q E hr h => ?_)
  · obtain ⟨a, ns, rfl, _⟩ := h
    rfl
  · obtain ⟨a, ns, rfl, ha, hl, q⟩ := h
    refine ⟨_, (pss_one (ps_ret (pe_callB (cr_allK (K := K) rfl) (by rfl) T.m_all (by decide +kernel) (pa_cons (pe_lc (own := [("_law_k", 1)]) (g := gName 1)  rfl sc_law.nd (pi_range1 (by rfl) T.m_range (pa_cons (pe_op op_add pe_int (pe_callB (call_min2 rfl) (by rfl) T.m_min (by decide +kernel) (pa_cons pe_int (pa_cons (pe_callB (call_len_seqK (K := K)) (by rfl) T.m_len (by decide +kernel) (pa_cons (pv 0) pa_nil)) pa_nil)))) pa_nil)) (blkOk_by (own := [("_law_k", 1)]) (N := N_law) (sc := defScope s_law) (by decide +kernel)) (fun _ _ _ _ _ => pg_name (i := 1) sc_law.nd rfl (Or.inl rfl)) (fun _ _ _ _ _ => pts_nil) (fun _ _ _ _ _ => (pe_callH G_law_right (hr.mono (by decide)) (by rfl) (pa_cons (pe_callH G_law_box (hr.mono (by decide)) (by rfl) (pa_cons (pv 0) (pa_cons (pv 1) pa_nil))) pa_nil)))) pa_nil)))), ?_⟩
    walk_at "w"
    refine ⟨a, _, rfl, .inl ha, ?_⟩
    rw [List.length_map]
    walk_at "w"
    have hj : 0 ≤ (1 + if ((ns.length : Nat) : Int) < 2 then ((ns.length : Nat) : Int) else 2) ∧ (1 + if ((ns.length : Nat) : Int) < 2 then ((ns.length : Nat) : Int) else 2) ≤ 3 := by
      split <;> omega
    generalize (1 + if ((ns.length : Nat) : Int) < 2 then ((ns.length : Nat) : Int) else 2) = j at *
    refine ⟨by omega, by omega, ?_⟩
    refine lc_go (walk_range (lo := 0) (n := j.toNat)) (fun D i acc H' => Gr [] H H' ∧ acc = (List.replicate i true).map V.bl) (fun D nD => ⟨Gr.new nD, rfl⟩) (fun _ _ _ _ _ _ => trivial) ?_ ?_
    · rintro D i ac x H2 H3 nD hi hD la ⟨g2, rfl⟩ ⟨rfl, rfl⟩
      walk_at "w"
      refine ⟨rfl, ?_⟩
      walk_at "w"
      refine WK.w_ifP rfl ?_
      walk_at "w"
      rw [Int.zero_add]
      refine ⟨a, ns, i, rfl, sqL_gr g2 (by simp) ha, hl, by omega, fun b H4 nb g4 hb => ?_⟩
      walk_at "w"
      refine ⟨b, 899100, rfl, hb, fun H5 g5 hb5 => ?_⟩
      dsimp only
      have bD : D ≠ b := fun e => by
        rw [← e, hD] at nb
        cases nb
      have hD5 := g5.k1 (g4.k0 hD) bD
      have g35 : Gr [] H3 H5 := g4.own g5 nb
      refine lc_yes hD5 la (by omega) ⟨(g2.trans g35).own (Gr.mutL hD5 (by simp)) nD, ?_⟩
      rw [List.replicate_succ', List.map_append]
      rfl
    · rintro D ac H2 nD hD la ⟨g2, rfl⟩
      walk_at "w"
      refine ⟨D, _, rfl, SqL.of hD, ?_⟩
      rw [List.all_replicate, show (if j.toNat = 0 then true else id true) = true from by split <;> rfl]
      exact q _

end
end PK
namespace PK
open PySem PySem.Spec PyProof.Rows L2
section
variable {K : PySem.W.Frag} {mg : Str → Option Value}
theorem df_of {h : Heap} {x : Str} {st : Stmt} {f : Addr} {ps : List Str} {od an : Option Addr} {sl : Array (Option Value)} {oc kV dc pm cd ct : Value} (X : K.In h) (G : h.Ns mainGlobals mg) (a : PySem.W.nsIn K mainGlobals x = some (some (.ref f))) (l : K.lookup f = some ⟨oc, od, .func (PySem.W.fnOf x x (defArgs st) (defBody st) (defScope st) .none kV dc pm an cd ct), sl⟩)
    (c : PySem.W.codeIn K cd x = true) (k : PySem.W.keepIn K (.ref f) = true) (b : ∀ (kV dc pm : Value) (an : Option Addr) (cd ct : Value) (us : List Value), us.length = ps.length → bindArgs (PySem.W.fnOf x x (defArgs st) (defBody st) (defScope st) .none kV dc pm an cd ct) ⟨us, []⟩ = pure (ps.zip us)) : Df K mg x st ps :=
  ⟨f, _, fun_mk l c k, PySem.W.mg_of X G a, (fun_mk l c k).binds b⟩
theorem df1_of {h : Heap} {x p : Str} {st : Stmt} {f : Addr} {od an : Option Addr} {sl : Array (Option Value)} {oc kV dc pm cd ct : Value} (X : K.In h) (G : h.Ns mainGlobals mg) (a : PySem.W.nsIn K mainGlobals x = some (some (.ref f))) (l : K.lookup f = some ⟨oc, od, .func (PySem.W.fnOf x x (defArgs st) (defBody st) (defScope st) .none kV dc pm an cd ct), sl⟩)
    (c : PySem.W.codeIn K cd x = true) (k : PySem.W.keepIn K (.ref f) = true) (b : ∀ (kV dc pm : Value) (an : Option Addr) (cd ct : Value) (us : List Value), us.length = 1 → bindArgs (PySem.W.fnOf x x (defArgs st) (defBody st) (defScope st) .none kV dc pm an cd ct) ⟨us, []⟩ = pure ([p].zip us))
    (e : ∀ u : Value, bindArgs (PySem.W.fnOf x x (defArgs st) (defBody st) (defScope st) .none kV dc pm an cd ct) ⟨[], [(p, u)]⟩ = pure [(p, u)]) : Df1 K mg x st [p] :=
  ⟨f, _, fun_mk l c k, PySem.W.mg_of X G a, (fun_mk l c k).binds b, ⟨fun s us ws _ hl => by
    match us, ws, hl with
    | [], [u], _ => exact .of_eq (e u), fun h h' => kv1_rel h h'⟩⟩
end
theorem all_mk {l : PySem.W.OpenLaw} {w : World} {K : PySem.W.Frag} {h : Heap} {mg : Str → Option Value} {fa : Addr} (X : K.In h) (G : h.Ns mainGlobals mg) (hfa : mg "law" = some (.ref fa))
    {C_Walk : Addr} (aC_Walk : PySem.W.nsIn K mainGlobals "Walk" = some (some (.ref C_Walk))) (pg_Walk : PySem.W.plainGet K C_Walk Str.empty = true) (hd_Walk : PySem.W.hasDictIn K C_Walk = true) (po_Walk : PySem.W.plainOver K C_Walk = true) (sa_Walk : PySem.W.findIn K (.ref C_Walk) "__setattr__" = some (some (.builtin "object.__setattr__"))) (mk_Walk : PySem.W.makesIn K C_Walk = true) (kc_Walk : PySem.W.keepIn K (.ref C_Walk) = true) (n0_Walk : PySem.W.findIn K (.ref C_Walk) "seats" = some none) (n1_Walk : PySem.W.findIn K (.ref C_Walk) "saved" = some none) (n2_Walk : PySem.W.findIn K (.ref C_Walk) "total" = some none)
    {f0 : Addr} {od0 an0 : Option Addr} {sl0 : Array (Option Value)} {oc0 kV0 dc0 pm0 cd0 ct0 : Value} (a0 : PySem.W.findIn K (.ref C_Walk) "__init__" = some (some (.ref f0))) (i0 : PySem.W.isFn K (.ref f0) = true) (l0 : K.lookup f0 = some ⟨oc0, od0, .func (PySem.W.fnOf "__init__" "Walk.__init__" (defArgs s_Walk___init__) (defBody s_Walk___init__) (defScope s_Walk___init__) .none kV0 dc0 pm0 an0 cd0 ct0), sl0⟩) (c0 : PySem.W.codeIn K cd0 "Walk.__init__" = true) (k0 : PySem.W.keepIn K (.ref f0) = true)
    {f1 : Addr} {od1 an1 : Option Addr} {sl1 : Array (Option Value)} {oc1 kV1 dc1 pm1 cd1 ct1 : Value} (a1 : PySem.W.findIn K (.ref C_Walk) "fits" = some (some (.ref f1))) (i1 : PySem.W.isFn K (.ref f1) = true) (l1 : K.lookup f1 = some ⟨oc1, od1, .func (PySem.W.fnOf "fits" "Walk.fits" (defArgs s_Walk_fits) (defBody s_Walk_fits) (defScope s_Walk_fits) .none kV1 dc1 pm1 an1 cd1 ct1), sl1⟩) (c1 : PySem.W.codeIn K cd1 "Walk.fits" = true) (k1 : PySem.W.keepIn K (.ref f1) = true)
    {f2 : Addr} {od2 an2 : Option Addr} {sl2 : Array (Option Value)} {oc2 kV2 dc2 pm2 cd2 ct2 : Value} (a2 : PySem.W.findIn K (.ref C_Walk) "step" = some (some (.ref f2))) (i2 : PySem.W.isFn K (.ref f2) = true) (l2 : K.lookup f2 = some ⟨oc2, od2, .func (PySem.W.fnOf "step" "Walk.step" (defArgs s_Walk_step) (defBody s_Walk_step) (defScope s_Walk_step) .none kV2 dc2 pm2 an2 cd2 ct2), sl2⟩) (c2 : PySem.W.codeIn K cd2 "Walk.step" = true) (k2 : PySem.W.keepIn K (.ref f2) = true)
    {f3 : Addr} {od3 an3 : Option Addr} {sl3 : Array (Option Value)} {oc3 kV3 dc3 pm3 cd3 ct3 : Value} (a3 : PySem.W.nsIn K mainGlobals "is_number" = some (some (.ref f3))) (l3 : K.lookup f3 = some ⟨oc3, od3, .func (PySem.W.fnOf "is_number" "is_number" (defArgs s_is_number) (defBody s_is_number) (defScope s_is_number) .none kV3 dc3 pm3 an3 cd3 ct3), sl3⟩) (c3 : PySem.W.codeIn K cd3 "is_number" = true) (k3 : PySem.W.keepIn K (.ref f3) = true)
    {f4 : Addr} {od4 an4 : Option Addr} {sl4 : Array (Option Value)} {oc4 kV4 dc4 pm4 cd4 ct4 : Value} (a4 : PySem.W.nsIn K mainGlobals "is_count" = some (some (.ref f4))) (l4 : K.lookup f4 = some ⟨oc4, od4, .func (PySem.W.fnOf "is_count" "is_count" (defArgs s_is_count) (defBody s_is_count) (defScope s_is_count) .none kV4 dc4 pm4 an4 cd4 ct4), sl4⟩) (c4 : PySem.W.codeIn K cd4 "is_count" = true) (k4 : PySem.W.keepIn K (.ref f4) = true)
    {f5 : Addr} {od5 an5 : Option Addr} {sl5 : Array (Option Value)} {oc5 kV5 dc5 pm5 cd5 ct5 : Value} (a5 : PySem.W.nsIn K mainGlobals "is_key" = some (some (.ref f5))) (l5 : K.lookup f5 = some ⟨oc5, od5, .func (PySem.W.fnOf "is_key" "is_key" (defArgs s_is_key) (defBody s_is_key) (defScope s_is_key) .none kV5 dc5 pm5 an5 cd5 ct5), sl5⟩) (c5 : PySem.W.codeIn K cd5 "is_key" = true) (k5 : PySem.W.keepIn K (.ref f5) = true)
    {f6 : Addr} {od6 an6 : Option Addr} {sl6 : Array (Option Value)} {oc6 kV6 dc6 pm6 cd6 ct6 : Value} (a6 : PySem.W.nsIn K mainGlobals "is_event" = some (some (.ref f6))) (l6 : K.lookup f6 = some ⟨oc6, od6, .func (PySem.W.fnOf "is_event" "is_event" (defArgs s_is_event) (defBody s_is_event) (defScope s_is_event) .none kV6 dc6 pm6 an6 cd6 ct6), sl6⟩) (c6 : PySem.W.codeIn K cd6 "is_event" = true) (k6 : PySem.W.keepIn K (.ref f6) = true)
    {f7 : Addr} {od7 an7 : Option Addr} {sl7 : Array (Option Value)} {oc7 kV7 dc7 pm7 cd7 ct7 : Value} (a7 : PySem.W.nsIn K mainGlobals "is_timetable" = some (some (.ref f7))) (l7 : K.lookup f7 = some ⟨oc7, od7, .func (PySem.W.fnOf "is_timetable" "is_timetable" (defArgs s_is_timetable) (defBody s_is_timetable) (defScope s_is_timetable) .none kV7 dc7 pm7 an7 cd7 ct7), sl7⟩) (c7 : PySem.W.codeIn K cd7 "is_timetable" = true) (k7 : PySem.W.keepIn K (.ref f7) = true)
    {f8 : Addr} {od8 an8 : Option Addr} {sl8 : Array (Option Value)} {oc8 kV8 dc8 pm8 cd8 ct8 : Value} (a8 : PySem.W.nsIn K mainGlobals "_law_box" = some (some (.ref f8))) (l8 : K.lookup f8 = some ⟨oc8, od8, .func (PySem.W.fnOf "_law_box" "_law_box" (defArgs s_law_box) (defBody s_law_box) (defScope s_law_box) .none kV8 dc8 pm8 an8 cd8 ct8), sl8⟩) (c8 : PySem.W.codeIn K cd8 "_law_box" = true) (k8 : PySem.W.keepIn K (.ref f8) = true)
    {f9 : Addr} {od9 an9 : Option Addr} {sl9 : Array (Option Value)} {oc9 kV9 dc9 pm9 cd9 ct9 : Value} (a9 : PySem.W.nsIn K mainGlobals "_law_take" = some (some (.ref f9))) (l9 : K.lookup f9 = some ⟨oc9, od9, .func (PySem.W.fnOf "_law_take" "_law_take" (defArgs s_law_take) (defBody s_law_take) (defScope s_law_take) .none kV9 dc9 pm9 an9 cd9 ct9), sl9⟩) (c9 : PySem.W.codeIn K cd9 "_law_take" = true) (k9 : PySem.W.keepIn K (.ref f9) = true)
    {f10 : Addr} {od10 an10 : Option Addr} {sl10 : Array (Option Value)} {oc10 kV10 dc10 pm10 cd10 ct10 : Value} (a10 : PySem.W.nsIn K mainGlobals "_law_of" = some (some (.ref f10))) (l10 : K.lookup f10 = some ⟨oc10, od10, .func (PySem.W.fnOf "_law_of" "_law_of" (defArgs s_law_of) (defBody s_law_of) (defScope s_law_of) .none kV10 dc10 pm10 an10 cd10 ct10), sl10⟩) (c10 : PySem.W.codeIn K cd10 "_law_of" = true) (k10 : PySem.W.keepIn K (.ref f10) = true)
    {f11 : Addr} {od11 an11 : Option Addr} {sl11 : Array (Option Value)} {oc11 kV11 dc11 pm11 cd11 ct11 : Value} (a11 : PySem.W.nsIn K mainGlobals "_law_same" = some (some (.ref f11))) (l11 : K.lookup f11 = some ⟨oc11, od11, .func (PySem.W.fnOf "_law_same" "_law_same" (defArgs s_law_same) (defBody s_law_same) (defScope s_law_same) .none kV11 dc11 pm11 an11 cd11 ct11), sl11⟩) (c11 : PySem.W.codeIn K cd11 "_law_same" = true) (k11 : PySem.W.keepIn K (.ref f11) = true)
    {f12 : Addr} {od12 an12 : Option Addr} {sl12 : Array (Option Value)} {oc12 kV12 dc12 pm12 cd12 ct12 : Value} (a12 : PySem.W.nsIn K mainGlobals "_law_event" = some (some (.ref f12))) (l12 : K.lookup f12 = some ⟨oc12, od12, .func (PySem.W.fnOf "_law_event" "_law_event" (defArgs s_law_event) (defBody s_law_event) (defScope s_law_event) .none kV12 dc12 pm12 an12 cd12 ct12), sl12⟩) (c12 : PySem.W.codeIn K cd12 "_law_event" = true) (k12 : PySem.W.keepIn K (.ref f12) = true)
    {f13 : Addr} {od13 an13 : Option Addr} {sl13 : Array (Option Value)} {oc13 kV13 dc13 pm13 cd13 ct13 : Value} (a13 : PySem.W.nsIn K mainGlobals "_law_moved" = some (some (.ref f13))) (l13 : K.lookup f13 = some ⟨oc13, od13, .func (PySem.W.fnOf "_law_moved" "_law_moved" (defArgs s_law_moved) (defBody s_law_moved) (defScope s_law_moved) .none kV13 dc13 pm13 an13 cd13 ct13), sl13⟩) (c13 : PySem.W.codeIn K cd13 "_law_moved" = true) (k13 : PySem.W.keepIn K (.ref f13) = true)
    {f14 : Addr} {od14 an14 : Option Addr} {sl14 : Array (Option Value)} {oc14 kV14 dc14 pm14 cd14 ct14 : Value} (a14 : PySem.W.nsIn K mainGlobals "_law_table" = some (some (.ref f14))) (l14 : K.lookup f14 = some ⟨oc14, od14, .func (PySem.W.fnOf "_law_table" "_law_table" (defArgs s_law_table) (defBody s_law_table) (defScope s_law_table) .none kV14 dc14 pm14 an14 cd14 ct14), sl14⟩) (c14 : PySem.W.codeIn K cd14 "_law_table" = true) (k14 : PySem.W.keepIn K (.ref f14) = true)
    {f15 : Addr} {od15 an15 : Option Addr} {sl15 : Array (Option Value)} {oc15 kV15 dc15 pm15 cd15 ct15 : Value} (a15 : PySem.W.nsIn K mainGlobals "_law_ended" = some (some (.ref f15))) (l15 : K.lookup f15 = some ⟨oc15, od15, .func (PySem.W.fnOf "_law_ended" "_law_ended" (defArgs s_law_ended) (defBody s_law_ended) (defScope s_law_ended) .none kV15 dc15 pm15 an15 cd15 ct15), sl15⟩) (c15 : PySem.W.codeIn K cd15 "_law_ended" = true) (k15 : PySem.W.keepIn K (.ref f15) = true)
    {f16 : Addr} {od16 an16 : Option Addr} {sl16 : Array (Option Value)} {oc16 kV16 dc16 pm16 cd16 ct16 : Value} (a16 : PySem.W.nsIn K mainGlobals "_law_lots" = some (some (.ref f16))) (l16 : K.lookup f16 = some ⟨oc16, od16, .func (PySem.W.fnOf "_law_lots" "_law_lots" (defArgs s_law_lots) (defBody s_law_lots) (defScope s_law_lots) .none kV16 dc16 pm16 an16 cd16 ct16), sl16⟩) (c16 : PySem.W.codeIn K cd16 "_law_lots" = true) (k16 : PySem.W.keepIn K (.ref f16) = true)
    {f17 : Addr} {od17 an17 : Option Addr} {sl17 : Array (Option Value)} {oc17 kV17 dc17 pm17 cd17 ct17 : Value} (a17 : PySem.W.nsIn K mainGlobals "_law_beside" = some (some (.ref f17))) (l17 : K.lookup f17 = some ⟨oc17, od17, .func (PySem.W.fnOf "_law_beside" "_law_beside" (defArgs s_law_beside) (defBody s_law_beside) (defScope s_law_beside) .none kV17 dc17 pm17 an17 cd17 ct17), sl17⟩) (c17 : PySem.W.codeIn K cd17 "_law_beside" = true) (k17 : PySem.W.keepIn K (.ref f17) = true)
    {f18 : Addr} {od18 an18 : Option Addr} {sl18 : Array (Option Value)} {oc18 kV18 dc18 pm18 cd18 ct18 : Value} (a18 : PySem.W.nsIn K mainGlobals "_law_fit" = some (some (.ref f18))) (l18 : K.lookup f18 = some ⟨oc18, od18, .func (PySem.W.fnOf "_law_fit" "_law_fit" (defArgs s_law_fit) (defBody s_law_fit) (defScope s_law_fit) .none kV18 dc18 pm18 an18 cd18 ct18), sl18⟩) (c18 : PySem.W.codeIn K cd18 "_law_fit" = true) (k18 : PySem.W.keepIn K (.ref f18) = true)
    {f19 : Addr} {od19 an19 : Option Addr} {sl19 : Array (Option Value)} {oc19 kV19 dc19 pm19 cd19 ct19 : Value} (a19 : PySem.W.nsIn K mainGlobals "_law_drawn" = some (some (.ref f19))) (l19 : K.lookup f19 = some ⟨oc19, od19, .func (PySem.W.fnOf "_law_drawn" "_law_drawn" (defArgs s_law_drawn) (defBody s_law_drawn) (defScope s_law_drawn) .none kV19 dc19 pm19 an19 cd19 ct19), sl19⟩) (c19 : PySem.W.codeIn K cd19 "_law_drawn" = true) (k19 : PySem.W.keepIn K (.ref f19) = true)
    {f20 : Addr} {od20 an20 : Option Addr} {sl20 : Array (Option Value)} {oc20 kV20 dc20 pm20 cd20 ct20 : Value} (a20 : PySem.W.nsIn K mainGlobals "_law_is_plain" = some (some (.ref f20))) (l20 : K.lookup f20 = some ⟨oc20, od20, .func (PySem.W.fnOf "_law_is_plain" "_law_is_plain" (defArgs s_law_is_plain) (defBody s_law_is_plain) (defScope s_law_is_plain) .none kV20 dc20 pm20 an20 cd20 ct20), sl20⟩) (c20 : PySem.W.codeIn K cd20 "_law_is_plain" = true) (k20 : PySem.W.keepIn K (.ref f20) = true)
    {f21 : Addr} {od21 an21 : Option Addr} {sl21 : Array (Option Value)} {oc21 kV21 dc21 pm21 cd21 ct21 : Value} (a21 : PySem.W.nsIn K mainGlobals "_law_is_name" = some (some (.ref f21))) (l21 : K.lookup f21 = some ⟨oc21, od21, .func (PySem.W.fnOf "_law_is_name" "_law_is_name" (defArgs s_law_is_name) (defBody s_law_is_name) (defScope s_law_is_name) .none kV21 dc21 pm21 an21 cd21 ct21), sl21⟩) (c21 : PySem.W.codeIn K cd21 "_law_is_name" = true) (k21 : PySem.W.keepIn K (.ref f21) = true)
    {f22 : Addr} {od22 an22 : Option Addr} {sl22 : Array (Option Value)} {oc22 kV22 dc22 pm22 cd22 ct22 : Value} (a22 : PySem.W.nsIn K mainGlobals "_law_is_row" = some (some (.ref f22))) (l22 : K.lookup f22 = some ⟨oc22, od22, .func (PySem.W.fnOf "_law_is_row" "_law_is_row" (defArgs s_law_is_row) (defBody s_law_is_row) (defScope s_law_is_row) .none kV22 dc22 pm22 an22 cd22 ct22), sl22⟩) (c22 : PySem.W.codeIn K cd22 "_law_is_row" = true) (k22 : PySem.W.keepIn K (.ref f22) = true)
    {f23 : Addr} {od23 an23 : Option Addr} {sl23 : Array (Option Value)} {oc23 kV23 dc23 pm23 cd23 ct23 : Value} (a23 : PySem.W.nsIn K mainGlobals "_law_is_whole" = some (some (.ref f23))) (l23 : K.lookup f23 = some ⟨oc23, od23, .func (PySem.W.fnOf "_law_is_whole" "_law_is_whole" (defArgs s_law_is_whole) (defBody s_law_is_whole) (defScope s_law_is_whole) .none kV23 dc23 pm23 an23 cd23 ct23), sl23⟩) (c23 : PySem.W.codeIn K cd23 "_law_is_whole" = true) (k23 : PySem.W.keepIn K (.ref f23) = true)
    {f24 : Addr} {od24 an24 : Option Addr} {sl24 : Array (Option Value)} {oc24 kV24 dc24 pm24 cd24 ct24 : Value} (a24 : PySem.W.nsIn K mainGlobals "_law_bent" = some (some (.ref f24))) (l24 : K.lookup f24 = some ⟨oc24, od24, .func (PySem.W.fnOf "_law_bent" "_law_bent" (defArgs s_law_bent) (defBody s_law_bent) (defScope s_law_bent) .none kV24 dc24 pm24 an24 cd24 ct24), sl24⟩) (c24 : PySem.W.codeIn K cd24 "_law_bent" = true) (k24 : PySem.W.keepIn K (.ref f24) = true)
    {f25 : Addr} {od25 an25 : Option Addr} {sl25 : Array (Option Value)} {oc25 kV25 dc25 pm25 cd25 ct25 : Value} (a25 : PySem.W.nsIn K mainGlobals "_law_right" = some (some (.ref f25))) (l25 : K.lookup f25 = some ⟨oc25, od25, .func (PySem.W.fnOf "_law_right" "_law_right" (defArgs s_law_right) (defBody s_law_right) (defScope s_law_right) .none kV25 dc25 pm25 an25 cd25 ct25), sl25⟩) (c25 : PySem.W.codeIn K cd25 "_law_right" = true) (k25 : PySem.W.keepIn K (.ref f25) = true)
    {f26 : Addr} {od26 an26 : Option Addr} {sl26 : Array (Option Value)} {oc26 kV26 dc26 pm26 cd26 ct26 : Value} (a26 : PySem.W.nsIn K mainGlobals "law" = some (some (.ref f26))) (l26 : K.lookup f26 = some ⟨oc26, od26, .func (PySem.W.fnOf "law" "law" (defArgs s_law) (defBody s_law) (defScope s_law) .none kV26 dc26 pm26 an26 cd26 ct26), sl26⟩) (c26 : PySem.W.codeIn K cd26 "law" = true) (k26 : PySem.W.keepIn K (.ref f26) = true)
    {t_0 : Tok} (v_0 : PySem.W.nsIn K mainGlobals "LETTERS" = some (some (.str "abcdefghijklmnopqrstuvwxyz" t_0)))
    {t_1 : Tok} (v_1 : PySem.W.nsIn K mainGlobals "LONGEST_KEY" = some (some (.int 8 t_1)))
    (z0 : PySem.W.nsIn K mainGlobals "abs" = some none) (z1 : PySem.W.nsIn K mainGlobals "all" = some none) (z2 : PySem.W.nsIn K mainGlobals "bool" = some none) (z3 : PySem.W.nsIn K mainGlobals "enumerate" = some none) (z4 : PySem.W.nsIn K mainGlobals "int" = some none) (z5 : PySem.W.nsIn K mainGlobals "isinstance" = some none) (z6 : PySem.W.nsIn K mainGlobals "len" = some none) (z7 : PySem.W.nsIn K mainGlobals "list" = some none) (z8 : PySem.W.nsIn K mainGlobals "min" = some none) (z9 : PySem.W.nsIn K mainGlobals "range" = some none) (z10 : PySem.W.nsIn K mainGlobals "set" = some none) (z11 : PySem.W.nsIn K mainGlobals "sorted" = some none) (z12 : PySem.W.nsIn K mainGlobals "str" = some none) (z13 : PySem.W.nsIn K mainGlobals "sum" = some none) (z14 : PySem.W.nsIn K mainGlobals "tuple" = some none) (z15 : PySem.W.nsIn K mainGlobals "zip" = some none) :
    ∃ fd : FuncData, (∀ (s : Shared) (v : Value), BindsTo s fd ⟨[v], []⟩ [("_law_script", v)]) ∧ ∀ base : Heap, K.In base → base.Ns mainGlobals mg → FnOk l.prog w K mg base CX0 7 fa fd ["_law_script"] (spLaw K) := by
  have e := hfa.symm.trans (PySem.W.mg_of X G a26)
  cases e
  have T : Txt mg := ⟨PySem.W.mg_none_of X G z0, PySem.W.mg_none_of X G z1, PySem.W.mg_none_of X G z2, PySem.W.mg_none_of X G z3, PySem.W.mg_none_of X G z4, PySem.W.mg_none_of X G z5, PySem.W.mg_none_of X G z6, PySem.W.mg_none_of X G z7, PySem.W.mg_none_of X G z8, PySem.W.mg_none_of X G z9, PySem.W.mg_none_of X G z10, PySem.W.mg_none_of X G z11, PySem.W.mg_none_of X G z12, PySem.W.mg_none_of X G z13, PySem.W.mg_none_of X G z14, PySem.W.mg_none_of X G z15⟩
  have TK : TxtK mg := ⟨⟨_, PySem.W.mg_of X G v_0⟩, ⟨_, PySem.W.mg_of X G v_1⟩⟩
  have CL : Cls K C_Walk := ⟨pg_Walk, hd_Walk, po_Walk, sa_Walk⟩
  have W : WkC K C_Walk := ⟨CL, n0_Walk, n1_Walk, n2_Walk⟩
  have D_Walk___init__ : DfI K mg C_Walk "Walk" "Walk.__init__" s_Walk___init__ ps_Walk___init__ := ⟨f0, _, fun_mk l0 c0 k0, ⟨mk_Walk, a0, i0, kc_Walk⟩, PySem.W.mg_of X G aC_Walk, (fun_mk l0 c0 k0).binds (fun _ _ _ _ _ _ us hl => match us, hl with | [_], _ => rfl)⟩
  have D_Walk_fits : DfM K C_Walk "fits" "Walk.fits" s_Walk_fits ps_Walk_fits := ⟨f1, _, fun_mk l1 c1 k1, ⟨a1, i1, k1⟩, (fun_mk l1 c1 k1).binds (fun _ _ _ _ _ _ us hl => match us, hl with | [_, _], _ => rfl)⟩
  have D_Walk_step : DfM K C_Walk "step" "Walk.step" s_Walk_step ps_Walk_step := ⟨f2, _, fun_mk l2 c2 k2, ⟨a2, i2, k2⟩, (fun_mk l2 c2 k2).binds (fun _ _ _ _ _ _ us hl => match us, hl with | [_, _], _ => rfl)⟩
  have D_is_number : Df K mg "is_number" s_is_number ps_is_number := df_of X G a3 l3 c3 k3 (fun _ _ _ _ _ _ us hl => match us, hl with | [_], _ => rfl)
  have D_is_count : Df K mg "is_count" s_is_count ps_is_count := df_of X G a4 l4 c4 k4 (fun _ _ _ _ _ _ us hl => match us, hl with | [_], _ => rfl)
  have D_is_key : Df K mg "is_key" s_is_key ps_is_key := df_of X G a5 l5 c5 k5 (fun _ _ _ _ _ _ us hl => match us, hl with | [_], _ => rfl)
  have D_is_event : Df1 K mg "is_event" s_is_event ps_is_event := df1_of X G a6 l6 c6 k6 (fun _ _ _ _ _ _ us hl => match us, hl with | [_], _ => rfl) (fun _ => rfl)
  have D_is_timetable : Df1 K mg "is_timetable" s_is_timetable ps_is_timetable := df1_of X G a7 l7 c7 k7 (fun _ _ _ _ _ _ us hl => match us, hl with | [_], _ => rfl) (fun _ => rfl)
  have D_law_box : Df K mg "_law_box" s_law_box ps_law_box := df_of X G a8 l8 c8 k8 (fun _ _ _ _ _ _ us hl => match us, hl with | [_, _], _ => rfl)
  have D_law_take : Df K mg "_law_take" s_law_take ps_law_take := df_of X G a9 l9 c9 k9 (fun _ _ _ _ _ _ us hl => match us, hl with | [_, _], _ => rfl)
  have D_law_of : Df K mg "_law_of" s_law_of ps_law_of := df_of X G a10 l10 c10 k10 (fun _ _ _ _ _ _ us hl => match us, hl with | [_, _], _ => rfl)
  have D_law_same : Df K mg "_law_same" s_law_same ps_law_same := df_of X G a11 l11 c11 k11 (fun _ _ _ _ _ _ us hl => match us, hl with | [_, _], _ => rfl)
  have D_law_event : Df K mg "_law_event" s_law_event ps_law_event := df_of X G a12 l12 c12 k12 (fun _ _ _ _ _ _ us hl => match us, hl with | [_, _, _, _, _], _ => rfl)
  have D_law_moved : Df K mg "_law_moved" s_law_moved ps_law_moved := df_of X G a13 l13 c13 k13 (fun _ _ _ _ _ _ us hl => match us, hl with | [_, _], _ => rfl)
  have D_law_table : Df K mg "_law_table" s_law_table ps_law_table := df_of X G a14 l14 c14 k14 (fun _ _ _ _ _ _ us hl => match us, hl with | [_, _, _, _, _, _], _ => rfl)
  have D_law_ended : Df K mg "_law_ended" s_law_ended ps_law_ended := df_of X G a15 l15 c15 k15 (fun _ _ _ _ _ _ us hl => match us, hl with | [_], _ => rfl)
  have D_law_lots : Df K mg "_law_lots" s_law_lots ps_law_lots := df_of X G a16 l16 c16 k16 (fun _ _ _ _ _ _ us hl => match us, hl with | [_, _, _], _ => rfl)
  have D_law_beside : Df K mg "_law_beside" s_law_beside ps_law_beside := df_of X G a17 l17 c17 k17 (fun _ _ _ _ _ _ us hl => match us, hl with | [_, _, _], _ => rfl)
  have D_law_fit : Df K mg "_law_fit" s_law_fit ps_law_fit := df_of X G a18 l18 c18 k18 (fun _ _ _ _ _ _ us hl => match us, hl with | [_, _, _, _], _ => rfl)
  have D_law_drawn : Df K mg "_law_drawn" s_law_drawn ps_law_drawn := df_of X G a19 l19 c19 k19 (fun _ _ _ _ _ _ us hl => match us, hl with | [_, _], _ => rfl)
  have D_law_is_plain : Df K mg "_law_is_plain" s_law_is_plain ps_law_is_plain := df_of X G a20 l20 c20 k20 (fun _ _ _ _ _ _ us hl => match us, hl with | [_], _ => rfl)
  have D_law_is_name : Df K mg "_law_is_name" s_law_is_name ps_law_is_name := df_of X G a21 l21 c21 k21 (fun _ _ _ _ _ _ us hl => match us, hl with | [_], _ => rfl)
  have D_law_is_row : Df K mg "_law_is_row" s_law_is_row ps_law_is_row := df_of X G a22 l22 c22 k22 (fun _ _ _ _ _ _ us hl => match us, hl with | [_], _ => rfl)
  have D_law_is_whole : Df K mg "_law_is_whole" s_law_is_whole ps_law_is_whole := df_of X G a23 l23 c23 k23 (fun _ _ _ _ _ _ us hl => match us, hl with | [_], _ => rfl)
  have D_law_bent : Df K mg "_law_bent" s_law_bent ps_law_bent := df_of X G a24 l24 c24 k24 (fun _ _ _ _ _ _ us hl => match us, hl with | [_, _], _ => rfl)
  have D_law_right : Df K mg "_law_right" s_law_right ps_law_right := df_of X G a25 l25 c25 k25 (fun _ _ _ _ _ _ us hl => match us, hl with | [_], _ => rfl)
  refine ⟨PySem.W.fnOf "law" "law" (defArgs s_law) (defBody s_law) (defScope s_law) .none kV26 dc26 pm26 an26 cd26 ct26, fun s v => .of_eq rfl, fun base _ _ => ?_⟩
  have F_law := fun_mk (st := s_law) l26 c26 k26
  have G_law_take : Has l.prog w K mg base 1 "_law_take" ps_law_take spTake := has_take D_law_take T
  have G_law_box : Has l.prog w K mg base 1 "_law_box" ps_law_box (spBox K) := has_box D_law_box T
  have G_law_of : Has l.prog w K mg base 2 "_law_of" ps_law_of spOf := has_of D_law_of T G_law_take
  have G_law_event : Has l.prog w K mg base 3 "_law_event" ps_law_event spEvent := has_event D_law_event T G_law_take G_law_of
  have G_movedS : Has l.prog w K mg base 1 "_law_moved" ps_law_moved (spMovedS K) := has_movedS D_law_moved T
  have G_law_moved : Has l.prog w K mg base 1 "_law_moved" ps_law_moved spMoved := has_moved G_movedS
  have G_law_table : Has l.prog w K mg base 4 "_law_table" ps_law_table spTable := has_table D_law_table T G_law_event G_law_moved
  have G_law_ended : Has l.prog w K mg base 2 "_law_ended" ps_law_ended spEnded := has_ended D_law_ended T G_law_moved
  have G_law_lots : Has l.prog w K mg base 2 "_law_lots" ps_law_lots spLots := has_lots D_law_lots T G_law_take
  have G_law_beside : Has l.prog w K mg base 2 "_law_beside" ps_law_beside spBeside := has_beside D_law_beside T G_law_take
  have G_law_fit : Has l.prog w K mg base 3 "_law_fit" ps_law_fit spFit := has_fit D_law_fit T G_law_take G_law_moved G_law_lots G_law_beside G_law_ended
  have G_law_drawn : Has l.prog w K mg base 5 "_law_drawn" ps_law_drawn spDrawn := has_drawn D_law_drawn T G_law_take G_law_of G_law_fit G_law_table G_law_ended
  have G_law_same : Has l.prog w K mg base 2 "_law_same" ps_law_same (spSame K 1) := has_same D_law_same T 1
  have G_plain : Has l.prog w K mg base 1 "_law_is_plain" ps_law_is_plain (spTell K plainB 2) := has_plain D_law_is_plain T 2
  have G_name : Has l.prog w K mg base 1 "_law_is_name" ps_law_is_name (spName K 2) := has_name D_law_is_name T 2
  have G_row : Has l.prog w K mg base 2 "_law_is_row" ps_law_is_row (spAsk K evB 3) := has_row D_law_is_row T 2 (by decide) G_name G_plain
  have G_whole : Has l.prog w K mg base 3 "_law_is_whole" ps_law_is_whole (spAsk K ttB 4) := has_whole D_law_is_whole T 2 (by decide) G_row G_movedS
  have G_bent : Has l.prog w K mg base 3 "_law_bent" ps_law_bent spBent := has_bent D_law_bent T G_law_take G_law_of
  have G_number : Has l.prog w K mg base 1 "is_number" ps_is_number (spTell K plainB 2) := has_number D_is_number T 2
  have G_count : Has l.prog w K mg base 2 "is_count" ps_is_count (spTell K countB 2) := has_count D_is_count T 2 G_number
  have G_key : Has l.prog w K mg base 1 "is_key" ps_is_key (spAsk K nameB 2) := has_key D_is_key T TK 2
  have K_event : Has1 l.prog w K mg base 3 "is_event" ps_is_event (spAsk K evB 3) := has_isev D_is_event T 2 (by decide) G_key G_number G_count
  have I_Walk : HasI l.prog w K mg base C_Walk 1 "Walk" ps_Walk___init__ (spInit C_Walk) := has_init D_Walk___init__ T W
  have G_fits : HasM l.prog w K mg base C_Walk 1 "fits" ps_Walk_fits (spFits K C_Walk) := has_fits D_Walk_fits T W
  have G_step : HasM l.prog w K mg base C_Walk 1 "step" ps_Walk_step (spStep K C_Walk) := has_step D_Walk_step T W
  have K_timetable : Has1 l.prog w K mg base 4 "is_timetable" ps_is_timetable (spAsk K ttB 4) := has_istt D_is_timetable T CL 2 (by decide) K_event.has I_Walk G_fits G_step
  have G_law_right : Has l.prog w K mg base 6 "_law_right" ps_law_right spRight := has_right D_law_right T G_law_same G_law_drawn G_law_take G_bent G_whole G_row K_timetable K_event
  exact ok_law F_law T G_law_box G_law_right
end PK
open PySem PySem.W PyProof.Rows
set_option maxHeartbeats 0 in
theorem PySem.Challenge.cw_missedmarks_k00_events_and_timetables_or_holds : PySem.Challenge.rw_missedmarks_k00_events_and_timetables_or.Holds := by
  w_on; o_law; k_head; (case hw => w_witness2)
  k_fill
  refine L2.walk_of (l := PySem.Challenge.rw_missedmarks_k00_events_and_timetables_or) (n := 63) (k := 7) (x := "_law_script") (CX := fun _ => L2.CX0) (sp := fun w => PK.spLaw _) rfl (by decide) rfl ⟨rfl, by decide, by decide⟩ (fun w h Y => PySem.W.kIn_of Y) ?F (fun _ _ a ns hl _ hS => ⟨a, ns, rfl, hS, hl, fun _ => rfl⟩) (fun _ _ _ _ _ h => h)
  case F =>
    intro w mg fa h KX G hmg
    refine' PK.all_mk KX G hmg ?aC_Walk ?pg_Walk ?hd_Walk ?po_Walk ?sa_Walk ?mk_Walk ?kc_Walk ?n0_Walk ?n1_Walk ?n2_Walk ?a0 ?i0 ?l0 ?c0 ?k0 ?a1 ?i1 ?l1 ?c1 ?k1 ?a2 ?i2 ?l2 ?c2 ?k2 ?a3 ?l3 ?c3 ?k3 ?a4 ?l4 ?c4 ?k4 ?a5 ?l5 ?c5 ?k5 ?a6 ?l6 ?c6 ?k6 ?a7 ?l7 ?c7 ?k7 ?a8 ?l8 ?c8 ?k8 ?a9 ?l9 ?c9 ?k9 ?a10 ?l10 ?c10 ?k10 ?a11 ?l11 ?c11 ?k11 ?a12 ?l12 ?c12 ?k12 ?a13 ?l13 ?c13 ?k13 ?a14 ?l14 ?c14 ?k14 ?a15 ?l15 ?c15 ?k15 ?a16 ?l16 ?c16 ?k16 ?a17 ?l17 ?c17 ?k17 ?a18 ?l18 ?c18 ?k18 ?a19 ?l19 ?c19 ?k19 ?a20 ?l20 ?c20 ?k20 ?a21 ?l21 ?c21 ?k21 ?a22 ?l22 ?c22 ?k22 ?a23 ?l23 ?c23 ?k23 ?a24 ?l24 ?c24 ?k24 ?a25 ?l25 ?c25 ?k25 ?a26 ?l26 ?c26 ?k26 ?v_0 ?v_1 ?z0 ?z1 ?z2 ?z3 ?z4 ?z5 ?z6 ?z7 ?z8 ?z9 ?z10 ?z11 ?z12 ?z13 ?z14 ?z15
    (case aC_Walk => k_is); (case pg_Walk => k_is); (case hd_Walk => k_is); (case po_Walk => k_is); (case sa_Walk => k_is); (case mk_Walk => k_is); (case kc_Walk => k_is); (case n0_Walk => k_is)
    (case n1_Walk => k_is); (case n2_Walk => k_is); (case a0 => k_is); (case i0 => k_is); (case l0 => k_is); (case c0 => k_is); (case k0 => k_is); (case a1 => k_is)
    (case i1 => k_is); (case l1 => k_is); (case c1 => k_is); (case k1 => k_is); (case a2 => k_is); (case i2 => k_is); (case l2 => k_is); (case c2 => k_is)
    (case k2 => k_is); (case a3 => k_is); (case l3 => k_is); (case c3 => k_is); (case k3 => k_is); (case a4 => k_is); (case l4 => k_is); (case c4 => k_is)
    (case k4 => k_is); (case a5 => k_is); (case l5 => k_is); (case c5 => k_is); (case k5 => k_is); (case a6 => k_is); (case l6 => k_is); (case c6 => k_is)
    (case k6 => k_is); (case a7 => k_is); (case l7 => k_is); (case c7 => k_is); (case k7 => k_is); (case a8 => k_is); (case l8 => k_is); (case c8 => k_is)
    (case k8 => k_is); (case a9 => k_is); (case l9 => k_is); (case c9 => k_is); (case k9 => k_is); (case a10 => k_is); (case l10 => k_is); (case c10 => k_is)
    (case k10 => k_is); (case a11 => k_is); (case l11 => k_is); (case c11 => k_is); (case k11 => k_is); (case a12 => k_is); (case l12 => k_is); (case c12 => k_is)
    (case k12 => k_is); (case a13 => k_is); (case l13 => k_is); (case c13 => k_is); (case k13 => k_is); (case a14 => k_is); (case l14 => k_is); (case c14 => k_is)
    (case k14 => k_is); (case a15 => k_is); (case l15 => k_is); (case c15 => k_is); (case k15 => k_is); (case a16 => k_is); (case l16 => k_is); (case c16 => k_is)
    (case k16 => k_is); (case a17 => k_is); (case l17 => k_is); (case c17 => k_is); (case k17 => k_is); (case a18 => k_is); (case l18 => k_is); (case c18 => k_is)
    (case k18 => k_is); (case a19 => k_is); (case l19 => k_is); (case c19 => k_is); (case k19 => k_is); (case a20 => k_is); (case l20 => k_is); (case c20 => k_is)
    (case k20 => k_is); (case a21 => k_is); (case l21 => k_is); (case c21 => k_is); (case k21 => k_is); (case a22 => k_is); (case l22 => k_is); (case c22 => k_is)
    (case k22 => k_is); (case a23 => k_is); (case l23 => k_is); (case c23 => k_is); (case k23 => k_is); (case a24 => k_is); (case l24 => k_is); (case c24 => k_is)
    (case k24 => k_is); (case a25 => k_is); (case l25 => k_is); (case c25 => k_is); (case k25 => k_is); (case a26 => k_is); (case l26 => k_is); (case c26 => k_is)
    (case k26 => k_is); (case v_0 => k_is); (case v_1 => k_is); (case z0 => k_is); (case z1 => k_is); (case z2 => k_is); (case z3 => k_is); (case z4 => k_is)
    (case z5 => k_is); (case z6 => k_is); (case z7 => k_is); (case z8 => k_is); (case z9 => k_is); (case z10 => k_is); (case z11 => k_is); (case z12 => k_is)
    (case z13 => k_is); (case z14 => k_is); (case z15 => k_is)

import PyProof.Rows.All
import Wide.All
import OpenK.AllK
import Wide.FinOn
import HandS.ForMost
import HandS.Flow
import HandS.Style
import HandS.IsInst
import HandS.Zip
import HandS.Walk
import HandS.TupAny
import HandS.Wide
import HandS.SetBool
import HandS.Strs
import HandS.SortInts
import HandS.More
import KE.GoesEnum
import HandS.SetFor
import HandS.List
import PyProof.Rows.MatchSeqLen
import HandS.RevRange
import HandS.SortRule
import HandS.DictTup
import HandS.ListItems
import PyProof.Rows.SortKeyStr
import KE.KDictPairs
import HandS.Defaults
import KE.KEqNest
import HandS.DictComp
import HandS.OwnEq
import HandS.MakeKw
import HandS.MakeKwOnly
import PySem.Challenge.RW_missedmarks_k80_reads_in_the_place_of_wa
set_option Elab.async false
set_option linter.all false
set_option maxRecDepth 100000
set_option maxHeartbeats 2000000
set_option Elab.async false
set_option linter.all false
set_option maxRecDepth 100000
/-! Steps that read a term of the hand layer from the left, one construct at a time. -/
namespace WK
open PySem L2
section
variable {K : PySem.W.Frag} {σ : L2.St} {H : Hp} {Q : VK} {D : Ends} {ta tb tc te : TE} {tt tu : TT} {x y v : V} {r : R2}
theorem w_var {i : Nat} (h : σ[i]? = some (some v)) (k : Q v H) : tVar i σ H Q := ⟨v, h, k⟩
theorem w_c (k : Q v H) : tC v σ H Q := k
theorem w_op (k : ta σ H fun x H1 => tb σ H1 fun y H2 => r x y H2 Q) : tOp r ta tb σ H Q := k
theorem w_un {r : V → Hp → VK → Prop} (k : ta σ H fun x H1 => r x H1 Q) : tUn r ta σ H Q := k
theorem w_I0 {g : Int → Int → V} {i j : Int} (k : Q (g i j) H) : rI0 g (.int i) (.int j) H Q := ⟨i, j, rfl, rfl, k⟩
theorem w_I {C : Int → Int → Prop} {g : Int → Int → V} {i j : Int} (c : C i j) (k : Q (g i j) H) : rI C g (.int i) (.int j) H Q := ⟨i, j, rfl, rfl, c, k⟩
theorem w_U {g : Int → V} {i : Int} (k : Q (g i) H) : rU g (.int i) H Q := ⟨i, rfl, k⟩
theorem w_eqI {i j : Int} (k : Q (.bl (decide (i = j))) H) : rEq (.int i) (.int j) H Q := ⟨rfl, by
  have e : decide (V.int i = V.int j) = decide (i = j) := by
    by_cases h : i = j
    · subst h; simp
    · rw [decide_eq_false h, decide_eq_false fun q => h (V.int.inj q)]
  rw [e]; exact k⟩
theorem w_neI {i j : Int} (k : Q (.bl (!decide (i = j))) H) : rNe (.int i) (.int j) H Q := ⟨rfl, by
  have e : decide (V.int i = V.int j) = decide (i = j) := by
    by_cases h : i = j
    · subst h; simp
    · rw [decide_eq_false h, decide_eq_false fun q => h (V.int.inj q)]
  rw [e]; exact k⟩
theorem w_eqS {i j : Str} (k : Q (.bl (decide (i = j))) H) : rEq (.str i) (.str j) H Q := ⟨rfl, by
  have e : decide (V.str i = V.str j) = decide (i = j) := by
    by_cases h : i = j
    · subst h; simp
    · rw [decide_eq_false h, decide_eq_false fun q => h (V.str.inj q)]
  rw [e]; exact k⟩
theorem w_neS {i j : Str} (k : Q (.bl (!decide (i = j))) H) : rNe (.str i) (.str j) H Q := ⟨rfl, by
  have e : decide (V.str i = V.str j) = decide (i = j) := by
    by_cases h : i = j
    · subst h; simp
    · rw [decide_eq_false h, decide_eq_false fun q => h (V.str.inj q)]
  rw [e]; exact k⟩
theorem w_eqB {i j : Bool} (k : Q (.bl (i == j)) H) : rEq (.bl i) (.bl j) H Q := ⟨rfl, by
  have e : decide (V.bl i = V.bl j) = (i == j) := by cases i <;> cases j <;> rfl
  rw [e]; exact k⟩
theorem w_neB {i j : Bool} (k : Q (.bl (!(i == j))) H) : rNe (.bl i) (.bl j) H Q := ⟨rfl, by
  have e : decide (V.bl i = V.bl j) = (i == j) := by cases i <;> cases j <;> rfl
  rw [e]; exact k⟩
/-! statements -/
theorem w_seq {t u : TS} (k : t { D with nx := u D } σ H) : tSeq t u D σ H := k
theorem w_next (k : D.nx σ H) : tNext D σ H := k
theorem w_asg {g : TG} (k : te σ H fun x H1 => g x σ H1 D.nx) : tAsg te g D σ H := k
theorem w_name {i : Nat} {R : L2.St → Hp → Prop} (k : R (σ.set i (some v)) H) : gName i v σ H R := k
theorem w_gsub {to ti : TE} {t : TSet} {R : L2.St → Hp → Prop} (k : to σ H fun o H1 => ti σ H1 fun i H2 => t o i v H2 fun H3 => R σ H3) : gSub to ti t v σ H R := k
theorem w_drop (k : te σ H fun _ H1 => D.nx σ H1) : tDrop te D σ H := k
theorem w_ret (k : te σ H D.rt) : tRet te D σ H := k
theorem w_if {t u : TS} (k : tt σ H fun b H1 => if b = true then t D σ H1 else u D σ H1) : tIfS tt t u D σ H := k
theorem w_par {i j : Nat} {t : TA} (k : t σ H fun vs H1 => ∃ v w, vs = [v, w] ∧ D.nx ((σ.set i (some v)).set j (some w)) H1) : tPar i j t D σ H := k
theorem w_par3 {i j l : Nat} {t : TA} (k : t σ H fun vs H1 => ∃ u v w, vs = [u, v, w] ∧ D.nx (((σ.set i (some u)).set j (some v)).set l (some w)) H1) : tPar3 i j l t D σ H := k
/-- where ways meet: what is known of a value, of a state, behind them -/
theorem w_gen (R : VK) (h : ∀ v H', R v H' → Q v H') (k : ∀ Q0 : VK, (∀ v H', R v H' → Q0 v H') → te σ H Q0) : te σ H Q := k Q h
theorem w_genS {t : TS} (R : L2.St → Hp → Prop) (h : ∀ σ' H', R σ' H' → D.nx σ' H') (k : ∀ D' : Ends, D'.rt = D.rt → D'.bk = D.bk → D'.ct = D.ct → (∀ σ' H', R σ' H' → D'.nx σ' H') → t D' σ H) : t D σ H := k D rfl rfl rfl h
theorem w_genT {R : Bool → Hp → Prop} (T : Bool → Hp → Prop) (h : ∀ b H', T b H' → R b H') (k : ∀ R0 : Bool → Hp → Prop, (∀ b H', T b H' → R0 b H') → tt σ H R0) : tt σ H R := k R h
theorem w_genA {t : TA} {R : List V → Hp → Prop} (T : List V → Hp → Prop) (h : ∀ vs H', T vs H' → R vs H') (k : ∀ R0 : List V → Hp → Prop, (∀ vs H', T vs H' → R0 vs H') → t σ H R0) : t σ H R := k R h
theorem w_ifP {c A B : Prop} [Decidable c] (h : c) (k : A) : if c then A else B := by rw [if_pos h]; exact k
theorem w_ifN {c A B : Prop} [Decidable c] (h : ¬ c) (k : B) : if c then A else B := by rw [if_neg h]; exact k
theorem w_2 {p : Prop} [Decidable p] {A B : Prop} (h1 : p → A) (h2 : ¬ p → B) : if decide p = true then A else B := by
  by_cases h : p
  · rw [if_pos (decide_eq_true h)]; exact h1 h
  · rw [if_neg (by rw [decide_eq_false h]; decide)]; exact h2 h
theorem w_2n {p : Prop} [Decidable p] {A B : Prop} (h1 : ¬ p → A) (h2 : p → B) : if (!decide p) = true then A else B := by
  by_cases h : p
  · rw [if_neg (by rw [decide_eq_true h]; decide)]; exact h2 h
  · rw [if_pos (by rw [decide_eq_false h]; decide)]; exact h1 h
theorem w_gtup {n : Nat} {t : TGs} {a : Addr} {xs : List V} {R : L2.St → Hp → Prop} (h : H a = some (.tup xs)) (hn : xs.length = n) (k : t xs σ H R) : gTup K n t (.ref a) σ H R := ⟨a, xs, rfl, SqT.of h, hn, k⟩
theorem w_gcons {t : TG} {u : TGs} {r : List V} {R : L2.St → Hp → Prop} (k : t v σ H fun σ' H' => u r σ' H' R) : gCons t u (v :: r) σ H R := ⟨v, r, rfl, k⟩
theorem w_gnil {R : L2.St → Hp → Prop} (k : R σ H) : gNil [] σ H R := ⟨rfl, k⟩
/-! tests -/
theorem w_B {R : Bool → Hp → Prop} (k : te σ H fun x H1 => ∃ c, x = .bl c ∧ R c H1) : tB te σ H R := k
theorem w_T {R : Bool → Hp → Prop} (k : te σ H fun x H1 => ∃ c, x = .bl c ∧ R c H1) : tTest te σ H R := k
theorem w_bl {R : Bool → Hp → Prop} {b : Bool} (k : R b H) : ∃ c, V.bl b = .bl c ∧ R c H := ⟨b, rfl, k⟩
theorem w_and {R : Bool → Hp → Prop} (k : tt σ H fun c H1 => if c = true then tu σ H1 R else R false H1) : tAnd tt tu σ H R := k
theorem w_or {R : Bool → Hp → Prop} (k : tt σ H fun c H1 => if c = true then R true H1 else tu σ H1 R) : tOr tt tu σ H R := k
theorem w_not {R : Bool → Hp → Prop} (k : tt σ H fun c H1 => R (!c) H1) : tNot tt σ H R := k
theorem w_andV (k : ta σ H fun x H1 => ∃ c, x = .bl c ∧ if c = true then tb σ H1 Q else Q (.bl false) H1) : tAndV ta tb σ H Q := k
theorem w_orV (k : ta σ H fun x H1 => ∃ c, x = .bl c ∧ if c = true then Q (.bl true) H1 else tb σ H1 Q) : tOrV ta tb σ H Q := k
theorem w_notV (k : ta σ H fun x H1 => ∃ c, x = .bl c ∧ Q (.bl (!c)) H1) : tNotV ta σ H Q := k
theorem w_ifE (k : tt σ H fun c H1 => if c = true then ta σ H1 Q else tb σ H1 Q) : tIf tt ta tb σ H Q := k
theorem w_ex {P : Bool → Prop} {b : Bool} (k : P b) : ∃ c, V.bl b = .bl c ∧ P c := ⟨b, rfl, k⟩
theorem w_isN (k : Q (.bl (decide (x = .non))) H) : (fun (x y : V) (H : Hp) (Q : VK) => y = V.non ∧ Q (.bl (decide (x = .non))) H) x .non H Q := ⟨rfl, k⟩
theorem w_notN (k : Q (.bl (!decide (x = .non))) H) : (fun (x y : V) (H : Hp) (Q : VK) => y = V.non ∧ Q (.bl (!decide (x = .non))) H) x .non H Q := ⟨rfl, k⟩
/-! calls, displays -/
theorem w_nil {R : List V → Hp → Prop} (k : R [] H) : tNil σ H R := k
theorem w_cons {t : TA} {R : List V → Hp → Prop} (k : ta σ H fun x H1 => t σ H1 fun xs H2 => R (x :: xs) H2) : tCons ta t σ H R := k
theorem w_call {sp : Sp} {dvs : List V} {E : XK} {t : TA} (k : t σ H fun vs H1 => sp (vs ++ dvs) H1 Q E) : tCall sp dvs E t σ H Q := k
theorem w_cb {r : List V → Hp → VK → Prop} {t : TA} (k : t σ H fun vs H1 => r vs H1 Q) : tCB r t σ H Q := k
theorem w_tup {t : TA} (k : t σ H fun xs H1 => xs.length ≤ sizeLine ∧ ∀ p, H1 p = none → Q (.ref p) (upd H1 p (.tup xs))) : tTup t σ H Q := k
theorem w_lst {t : TA} (k : t σ H fun xs H1 => xs.length ≤ sizeLine ∧ ∀ p, H1 p = none → Q (.ref p) (upd H1 p (.lst xs))) : tLst t σ H Q := k
theorem w_bm {T : String} {r : V → List V → Hp → VK → Prop} {t : TA} (k : ta σ H fun x H1 => tyV K T x H1 ∧ t σ H1 fun xs H2 => r x xs H2 Q) : tBM K T r ta t σ H Q := k
theorem w_bm0 {T : String} {r : V → List V → Hp → VK → Prop} (k : ta σ H fun x H1 => tyV K T x H1 ∧ r x [] H1 Q) : tBM0 K T r ta σ H Q := k
theorem w_dget (k : ta σ H fun x H1 => tb σ H1 fun y H2 => ∃ a v, x = .ref a ∧ DGet H2 a y (some v) ∧ Q v H2) : tDGet ta tb σ H Q := k
theorem w_din (k : ta σ H fun y H1 => tb σ H1 fun x H2 => ∃ a o, x = .ref a ∧ DGet H2 a y o ∧ Q (.bl o.isSome) H2) : tDIn ta tb σ H Q := k
theorem w_dnotin (k : ta σ H fun y H1 => tb σ H1 fun x H2 => ∃ a o, x = .ref a ∧ DGet H2 a y o ∧ Q (.bl (!o.isSome)) H2) : tDNotIn ta tb σ H Q := k
theorem w_dput (k : tc σ H fun v H1 => ta σ H1 fun x H2 => tb σ H2 fun y H3 => ∃ a H4, x = .ref a ∧ DPut H3 a y v H4 ∧ D.nx σ H4) : sDPut ta tb tc D σ H := k
theorem w_sl {r : V → Option Int → Option Int → Hp → VK → Prop} {tl th : TO} (k : te σ H fun x H1 => tl σ H1 fun l H2 => th σ H2 fun u H3 => r x l u H3 Q) : tSl r te tl th σ H Q := k
theorem w_noPart {R : Option Int → Hp → Prop} (k : R none H) : tNoPart σ H R := k
theorem w_part {R : Option Int → Hp → Prop} (k : te σ H fun x H1 => ∃ i, x = .int i ∧ R (some i) H1) : tPart te σ H R := k
theorem w_exI {P : Int → Prop} {i : Int} (k : P i) : ∃ j, V.int i = .int j ∧ P j := ⟨i, rfl, k⟩
theorem w_yes {R : Bool → Hp → Prop} (k : R true H) : tYes σ H R := k
theorem w_ixL {p : Addr} {xs : List V} {j : Nat} (h : H p = some (.lst xs)) (hx : xs[j]? = some v) (k : Q v H) : rIxL K (.ref p) (.int (j : Int)) H Q := ⟨p, xs, (j : Int), v, rfl, rfl, SqL.of h, atI_nat hx, k⟩
theorem at_ofG {α : Type} {xs : List α} {z : Int} {j : Nat} {v : α} (e : z = (j : Int)) (h : xs[j]? = some v) : atI xs z = some v := by
  rw [e]
  exact atI_nat h
theorem w_ix {p : Addr} {xs : List V} {i : Int} (h : H p = some (.lst xs)) (hx : atI xs i = some v) (k : Q v H) : rIxL K (.ref p) (.int i) H Q := ⟨p, xs, i, v, rfl, rfl, SqL.of h, hx, k⟩
theorem w_ixT {p : Addr} {xs : List V} {i : Int} (h : H p = some (.tup xs)) (hx : atI xs i = some v) (k : Q v H) : rIxT K (.ref p) (.int i) H Q := ⟨p, xs, i, v, rfl, rfl, SqT.of h, hx, k⟩
theorem w_set {p : Addr} {xs : List V} {i : Int} {j : Nat} {R : Hp → Prop} (h : H p = some (.lst xs)) (hj : ixN xs.length i = some j) (k : R (upd H p (.lst (xs.set j v)))) : rSetL (.ref p) (.int i) v H R := ⟨p, xs, i, j, rfl, rfl, h, hj, k⟩
theorem w_setL {p : Addr} {xs : List V} {j : Nat} {R : Hp → Prop} (h : H p = some (.lst xs)) (hj : j < xs.length) (k : R (upd H p (.lst (xs.set j v)))) : rSetL (.ref p) (.int (j : Int)) v H R :=
  ⟨p, xs, j, j, rfl, rfl, h, by unfold ixN; rw [if_pos (by omega), if_pos (by omega)]; simp, k⟩
theorem w_int1 {i : Int} (k : Q (.int i) H) : (fun (xs : List V) (H : Hp) (Q : VK) => (∃ i, xs = [.int i] ∧ Q (.int i) H) ∨ ∃ k, xs = [.bl k] ∧ Q (.int (if k then 1 else 0)) H) [.int i] H Q := .inl ⟨i, rfl, k⟩
theorem w_intB {b : Bool} (k : Q (.int (if b then 1 else 0)) H) : (fun (xs : List V) (H : Hp) (Q : VK) => (∃ i, xs = [.int i] ∧ Q (.int i) H) ∨ ∃ k, xs = [.bl k] ∧ Q (.int (if k then 1 else 0)) H) [.bl b] H Q := .inr ⟨b, rfl, k⟩
theorem w_abs {i : Int} (k : Q (.int (if i < 0 then -i else i)) H) : (fun (xs : List V) (H : Hp) (Q : VK) => ∃ i, xs = [.int i] ∧ Q (.int (if i < 0 then -i else i)) H) [.int i] H Q := ⟨i, rfl, k⟩
theorem w_or1 {P : Int → Prop} {R : Prop} {i : Int} (k : P i) : (∃ j, [V.int i] = [V.int j] ∧ P j) ∨ R := .inl ⟨i, rfl, k⟩
theorem w_or2 {P : Bool → Prop} {R : Prop} {b : Bool} (k : P b) : R ∨ ∃ j, [V.bl b] = [V.bl j] ∧ P j := .inr ⟨b, rfl, k⟩
theorem w_ex1 {P : Int → Prop} {i : Int} (k : P i) : ∃ j, [V.int i] = [V.int j] ∧ P j := ⟨i, rfl, k⟩
theorem w_ex2 {P : Int → Int → Prop} {i j : Int} (k : P i j) : ∃ a b, [V.int i, V.int j] = [V.int a, V.int b] ∧ P a b := ⟨i, j, rfl, k⟩
theorem w_rfl {R : Prop} (k : R) : x = x ∧ R := ⟨rfl, k⟩
theorem w_len {p : Addr} {P : Int → Prop} {ys : List V} (h : SqL K H p ys ∨ SqT K H p ys) (k : P ys.length) : ∃ p' ys', [V.ref p] = [V.ref p'] ∧ (SqL K H p' ys' ∨ SqT K H p' ys') ∧ P ys'.length := ⟨p, ys, rfl, h, k⟩
theorem w_lenS {z : Str} {P : Int → Prop} (h : z.length ≤ sizeLine) (k : P z.length) : ∃ z', [V.str z] = [V.str z'] ∧ z'.length ≤ sizeLine ∧ P z'.length := ⟨z, rfl, h, k⟩
theorem w_pr2 {P : V → V → Prop} (k : P x y) : ∃ a b, [x, y] = [a, b] ∧ P a b := ⟨x, y, rfl, k⟩
theorem w_pr3 {P : V → V → V → Prop} {z : V} (k : P x y z) : ∃ a b c, [x, y, z] = [a, b, c] ∧ P a b c := ⟨x, y, z, rfl, k⟩
theorem w_inT {p : Addr} {xs : List V} (h : H p = some (.tup xs)) (hx : flatV x = true) (ha : xs.all flatV = true) (k : Q (.bl (inV x xs)) H) : rIn K false x (.ref p) H Q := ⟨p, xs, rfl, .inr (SqT.of h), hx, ha, k⟩
theorem w_ninT {p : Addr} {xs : List V} (h : H p = some (.tup xs)) (hx : flatV x = true) (ha : xs.all flatV = true) (k : Q (.bl (!inV x xs)) H) : rIn K true x (.ref p) H Q := ⟨p, xs, rfl, .inr (SqT.of h), hx, ha, k⟩
theorem sz {n : Nat} (h : n ≤ 1000 := by simp) : n ≤ sizeLine := Nat.le_trans h (by decide)
theorem sz' {n : Nat} (h : n < 100000) : n < sizeLine := Nat.lt_of_lt_of_le h (by decide)
theorem w_app {l : Addr} {xs : List V} {y : V} (h : H l = some (.lst xs)) (hz : xs.length < sizeLine) (k : Q .non (upd H l (.lst (xs ++ [y])))) : rAppend (.ref l) [y] H Q := ⟨l, xs, y, rfl, rfl, h, hz, k⟩
theorem w_tyL {l : Addr} {xs : List V} {P : Prop} (h : H l = some (.lst xs)) (k : P) : tyV K "list" (.ref l) H ∧ P := ⟨.inl ⟨rfl, xs, SqL.of h⟩, k⟩
end
end WK

set_option Elab.async false
set_option linter.all false
set_option maxRecDepth 100000
/-! Heaps that grow; events, timetables, where readers are: the mathematics of what the law draws. -/
namespace PK
open PySem L2

/-! ### heaps that grow, but for what is at M -/
structure Gr (M : List Addr) (H H' : Hp) : Prop where
  keep : ∀ a o, a ∉ M → H a = some o → H' a = some o
  tup : ∀ a xs, H a = some (.tup xs) → H' a = some (.tup xs)
  fix : ∀ a o u, H a = some (.frz o u) → H' a = some (.frz o u)
  live : ∀ a, H' a = none → H a = none
theorem Gr.refl (M : List Addr) (H : Hp) : Gr M H H := ⟨fun _ _ _ h => h, fun _ _ h => h, fun _ _ _ h => h, fun _ h => h⟩
theorem Gr.trans {M : List Addr} {H H1 H2 : Hp} (g : Gr M H H1) (g' : Gr M H1 H2) : Gr M H H2 :=
  ⟨fun a o n h => g'.keep a o n (g.keep a o n h), fun a xs h => g'.tup a xs (g.tup a xs h), fun a o u h => g'.fix a o u (g.fix a o u h), fun a h => g.live a (g'.live a h)⟩
theorem Gr.mono {M M' : List Addr} {H H1 : Hp} (g : Gr M H H1) (h : ∀ a ∈ M, a ∈ M') : Gr M' H H1 :=
  ⟨fun a o n e => g.keep a o (fun z => n (h a z)) e, g.tup, g.fix, g.live⟩
theorem Gr.new {M : List Addr} {H : Hp} {p : Addr} {o : HO} (h : H p = none) : Gr M H (upd H p o) :=
  ⟨fun a u _ e => by rw [upd_ne (ne_of_none e h)]; exact e, fun a u e => by rw [upd_ne (ne_of_none e h)]; exact e, fun a u v e => by rw [upd_ne (ne_of_none e h)]; exact e, fun a e => by
    by_cases q : a = p
    · rw [q]; exact h
    · rw [upd_ne q] at e; exact e⟩
theorem Gr.mut {M : List Addr} {H : Hp} {p : Addr} {o u : HO} (h : H p = some u) (hn : ∀ xs, u ≠ .tup xs) (hm : p ∈ M) (hf : ∀ o v, u ≠ .frz o v := by intro _ _ z; cases z) : Gr M H (upd H p o) :=
  ⟨fun a v n e => by rw [upd_ne (fun q => n (by rw [q]; exact hm))]; exact e, fun a xs e => by rw [upd_ne (fun q => by subst q; rw [h] at e; exact hn xs (Option.some.inj e))]; exact e, fun a o v e => by rw [upd_ne (fun q => by subst q; rw [h] at e; exact hf o v (Option.some.inj e))]; exact e, fun a e => by
    by_cases q : a = p
    · subst q; rw [upd_same] at e; cases e
    · rw [upd_ne q] at e; exact e⟩
theorem Gr.mutL {M : List Addr} {H : Hp} {p : Addr} {xs : List V} {o : HO} (h : H p = some (.lst xs)) (hm : p ∈ M) : Gr M H (upd H p o) := Gr.mut h (fun _ q => by cases q) hm
theorem Gr.mutD {M : List Addr} {H : Hp} {p : Addr} {kvs : List (Key × V)} {o : HO} (h : H p = some (.dK kvs)) (hm : p ∈ M) : Gr M H (upd H p o) := Gr.mut h (fun _ q => by cases q) hm
/-- what was made after H may change -/
theorem Gr.own {M : List Addr} {H H1 H2 : Hp} {p : Addr} (g : Gr M H H1) (g' : Gr (p :: M) H1 H2) (h : H p = none) : Gr M H H2 :=
  ⟨fun a o n e => g'.keep a o (fun z => (List.mem_cons.mp z).elim (fun q => by rw [q, h] at e; cases e) n) (g.keep a o n e), fun a xs e => g'.tup a xs (g.tup a xs e), fun a o u e => g'.fix a o u (g.fix a o u e), fun a e => g.live a (g'.live a e)⟩
theorem Gr.sub {M : List Addr} {H H1 H2 : Hp} {L : List Addr} (g : Gr M H H1) (g' : Gr (L ++ M) H1 H2) (h : ∀ p ∈ L, H p = none) : Gr M H H2 :=
  ⟨fun a o n e => g'.keep a o (fun z => (List.mem_append.mp z).elim (fun q => by rw [h a q] at e; cases e) n) (g.keep a o n e), fun a xs e => g'.tup a xs (g.tup a xs e), fun a o u e => g'.fix a o u (g.fix a o u e), fun a e => g.live a (g'.live a e)⟩
theorem Gr.k1 {b a : Addr} {H H' : Hp} {o : HO} (g : Gr [b] H H') (h : H a = some o) (n : a ≠ b) : H' a = some o := g.keep a o (by simpa using n) h
theorem Gr.k0 {a : Addr} {H H' : Hp} {o : HO} (g : Gr [] H H') (h : H a = some o) : H' a = some o := g.keep a o (by simp) h
theorem Gr.ex {H H' : Hp} (g : Gr [] H H') : ∀ a o, H a = some o → H' a = some o := fun a o h => g.k0 h
theorem Gr.of_ex {M : List Addr} {H H' : Hp} (g : ∀ a o, H a = some o → H' a = some o) : Gr M H H' := ⟨fun a o _ h => g a o h, fun a xs h => g a _ h, fun a o u h => g a _ h, fun a h => by
  cases q : H a with
  | none => rfl
  | some o => rw [g a o q] at h; cases h⟩

/-! ### a source of draws: room for n more -/
def Bx (H : Hp) (b : Addr) (n : Nat) : Prop := ∃ x s c : Int, H b = some (.lst [.int x, .int s, .int c]) ∧ 0 ≤ x ∧ 0 ≤ s ∧ s < 2147483563 ∧ 0 ≤ c ∧ c + n ≤ 1000000
theorem Bx.mono {H : Hp} {b : Addr} {n m : Nat} (h : Bx H b n) (l : m ≤ n) : Bx H b m := by
  obtain ⟨x, s, c, e, h1, h2, h3, h4, h5⟩ := h
  exact ⟨x, s, c, e, h1, h2, h3, h4, by omega⟩
theorem Bx.keep {H H' : Hp} {b : Addr} {n : Nat} {M : List Addr} (h : Bx H b n) (g : Gr M H H') (hb : b ∉ M) : Bx H' b n := by
  obtain ⟨x, s, c, e, r⟩ := h
  exact ⟨x, s, c, g.keep b _ hb e, r⟩
theorem Bx.lst {H : Hp} {b : Addr} {n : Nat} (h : Bx H b n) : ∃ xs, H b = some (.lst xs) := by
  obtain ⟨x, s, c, e, _⟩ := h
  exact ⟨_, e⟩

/-! ### events -/
inductive Ev where
  | put (k : Str) (v : Int) | drop (k : Str) | join (r : Int) | read (r u : Int) | save (r : Int) | load (r c : Int) | wait
def Ev.vs : Ev → List V
  | .put k v => [.str "put", .str k, .int v]
  | .drop k => [.str "drop", .str k]
  | .join r => [.str "join", .int r]
  | .read r u => [.str "read", .int r, .int u]
  | .save r => [.str "save", .int r]
  | .load r c => [.str "load", .int r, .int c]
  | .wait => [.str "wait"]
def Ev.word : Ev → Str
  | .put _ _ => "put"
  | .drop _ => "drop"
  | .join _ => "join"
  | .read _ _ => "read"
  | .save _ => "save"
  | .load _ _ => "load"
  | .wait => "wait"
theorem Ev.at0 (e : Ev) : atI e.vs 0 = some (.str e.word) := by cases e <;> rfl
def KeyOk (k : Str) : Prop := k = "a" ∨ k = "b" ∨ k = "cc" ∨ k = "abc"
def Ev.ok : Ev → Prop
  | .put k v => KeyOk k ∧ 0 ≤ v ∧ v < 9
  | .drop k => KeyOk k
  | .join r => 0 ≤ r ∧ r < 4
  | .read r u => (0 ≤ r ∧ r < 4) ∧ 0 < u
  | .save r => 0 ≤ r ∧ r < 4
  | .load r c => (0 ≤ r ∧ r < 4) ∧ 0 ≤ c
  | .wait => True
/-- a value that is this event, as a tuple -/
def IsEv (H : Hp) (v : V) (e : Ev) : Prop := ∃ a, v = .ref a ∧ H a = some (.tup e.vs)
abbrev Evs (H : Hp) : List V → List Ev → Prop := Paired (IsEv H)
theorem IsEv.gr {H H' : Hp} {M : List Addr} {v : V} {e : Ev} (h : IsEv H v e) (g : Gr M H H') : IsEv H' v e := by
  obtain ⟨a, q, h⟩ := h
  exact ⟨a, q, g.tup a _ h⟩
theorem Evs.gr {H H' : Hp} {M : List Addr} {xs : List V} {es : List Ev} (h : Evs H xs es) (g : Gr M H H') : Evs H' xs es := Paired.mono (fun _ _ q => q.gr g) h
theorem pr_append {α β : Type} {F : α → β → Prop} : ∀ {a : List α} {b : List β} {c : List α} {d : List β}, Paired F a b → Paired F c d → Paired F (a ++ c) (b ++ d)
  | _, _, _, _, .nil, h => h
  | _, _, _, _, .cons h t, h' => .cons h (pr_append t h')
theorem pr_get {α β : Type} {F : α → β → Prop} : ∀ {a : List α} {b : List β} {i : Nat} {x : α}, Paired F a b → a[i]? = some x → ∃ y, b[i]? = some y ∧ F x y
  | _, _, _, _, .nil, h => by simp at h
  | _, _, 0, _, .cons h t, e => by simp at e; subst e; exact ⟨_, rfl, h⟩
  | _, _, i + 1, x, .cons h t, e => by
    obtain ⟨y, e1, e2⟩ := pr_get (i := i) (x := x) t (by simpa using e)
    exact ⟨y, by simpa using e1, e2⟩
theorem pr_get' {α β : Type} {F : α → β → Prop} : ∀ {a : List α} {b : List β} {i : Nat} {y : β}, Paired F a b → b[i]? = some y → ∃ x, a[i]? = some x ∧ F x y
  | _, _, _, _, .nil, h => by simp at h
  | _, _, 0, _, .cons h t, e => by simp at e; subst e; exact ⟨_, rfl, h⟩
  | _, _, i + 1, x, .cons h t, e => by
    obtain ⟨y, e1, e2⟩ := pr_get' (i := i) (y := x) t (by simpa using e)
    exact ⟨y, by simpa using e1, e2⟩
/-- a timetable, as a tuple of tuples -/
def IsTT (H : Hp) (v : V) (es : List Ev) : Prop := ∃ a xs, v = .ref a ∧ H a = some (.tup xs) ∧ Evs H xs es
theorem IsTT.gr {H H' : Hp} {M : List Addr} {v : V} {es : List Ev} (h : IsTT H v es) (g : Gr M H H') : IsTT H' v es := by
  obtain ⟨a, xs, q, h, he⟩ := h
  exact ⟨a, xs, q, g.tup a _ h, he.gr g⟩

/-! ### where readers are -/
structure WS where
  seats : Int → Option Int
  copies : List Int
  many : Int
def WS.nil : WS := ⟨fun _ => none, [], 0⟩
def WS.seat (s : WS) (r p : Int) : WS := { s with seats := fun i => if i = r then some p else s.seats i }
def WS.step (s : WS) : Ev → WS
  | .put _ _ => { s with many := s.many + 1 }
  | .drop _ => { s with many := s.many + 1 }
  | .join r => s.seat r 0
  | .read r u => s.seat r u
  | .save r => { s with copies := s.copies ++ [(s.seats r).getD 0] }
  | .load r c => s.seat r (s.copies.getD c.toNat 0)
  | .wait => s
def WS.fits (s : WS) : Ev → Prop
  | .read r u => ∃ p, s.seats r = some p ∧ p < u ∧ u ≤ s.many
  | .save r => ∃ p, s.seats r = some p
  | .load _ c => 0 ≤ c ∧ c < s.copies.length
  | _ => True
def WS.run (s : WS) (es : List Ev) : WS := es.foldl WS.step s
def Valid : WS → List Ev → Prop
  | _, [] => True
  | s, e :: es => s.fits e ∧ Valid (s.step e) es
theorem run_append (s : WS) (a b : List Ev) : s.run (a ++ b) = (s.run a).run b := by unfold WS.run; rw [List.foldl_append]
theorem run_snoc (s : WS) (a : List Ev) (e : Ev) : s.run (a ++ [e]) = (s.run a).step e := by rw [run_append]; rfl
theorem valid_append : ∀ {s : WS} {a b : List Ev}, Valid s (a ++ b) ↔ Valid s a ∧ Valid (s.run a) b
  | s, [], b => ⟨fun h => ⟨True.intro, h⟩, fun h => h.2⟩
  | s, e :: a, b => by
    have ih := @valid_append (s.step e) a b
    constructor
    · intro h
      exact ⟨⟨h.1, (ih.mp h.2).1⟩, (ih.mp h.2).2⟩
    · intro h
      exact ⟨h.1.1, ih.mpr ⟨h.1.2, h.2⟩⟩
theorem valid_snoc {s : WS} {a : List Ev} {e : Ev} (h : Valid s a) (f : (s.run a).fits e) : Valid s (a ++ [e]) := valid_append.mpr ⟨h, f, True.intro⟩
theorem valid_take {s : WS} {a : List Ev} (h : Valid s a) (i : Nat) {e : Ev} (he : a[i]? = some e) : (s.run (a.take i)).fits e := by
  have q : a = a.take i ++ a.drop i := (List.take_append_drop i a).symm
  rw [q] at h
  have h2 := (valid_append.mp h).2
  obtain ⟨hi, e1⟩ := List.getElem?_eq_some_iff.mp he
  rw [List.drop_eq_getElem_cons hi, e1] at h2
  exact h2.1
theorem take_snoc {α : Type} {a : List α} {i : Nat} {e : α} (he : a[i]? = some e) : a.take (i + 1) = a.take i ++ [e] := by rw [List.take_add_one, he]; rfl
/-- whoever is somewhere stays somewhere -/
theorem step_some {s : WS} {e : Ev} {r : Int} (h : (s.seats r).isSome = true) : ((s.step e).seats r).isSome = true := by
  cases e <;> simp only [WS.step, WS.seat] <;> first | exact h | (split <;> first | rfl | exact h)
theorem run_some {r : Int} : ∀ {s : WS} {es : List Ev}, (s.seats r).isSome = true → ((s.run es).seats r).isSome = true
  | s, [], h => h
  | s, e :: es, h => run_some (s := s.step e) (es := es) (step_some h)

/-! ### the law's dict of these -/
abbrev wK (sd cl : Addr) (m : Int) : List (Key × V) := [(.inr "seats", .ref sd), (.inr "copies", .ref cl), (.inr "many", .int m)]
def SeatsAt (H : Hp) (sd : Addr) (f : Int → Option Int) (n : Nat) : Prop := ∃ (kvs : List (Key × V)) (ks : List Int), H sd = some (.dK kvs) ∧ kvs.map (·.1) = ks.map Sum.inl ∧ ks.Nodup ∧ ks.length ≤ n ∧ (∀ r, r ∈ ks ↔ (f r).isSome = true) ∧ ∀ r, valV kvs (.inl r) = (f r).map V.int
structure WAt (H : Hp) (w sd cl : Addr) (st : WS) (n : Nat) : Prop where
  w : H w = some (.dK (wK sd cl st.many))
  s : SeatsAt H sd st.seats n
  c : H cl = some (.lst (st.copies.map V.int))
  cn : st.copies.length ≤ n
theorem WAt.keep {H H' : Hp} {w sd cl : Addr} {st : WS} {n : Nat} {M : List Addr} (h : WAt H w sd cl st n) (g : Gr M H H') (h1 : w ∉ M) (h2 : sd ∉ M) (h3 : cl ∉ M) : WAt H' w sd cl st n := by
  obtain ⟨hw, ⟨kvs, ks, hs, r⟩, hc, cn⟩ := h
  exact ⟨g.keep _ _ h1 hw, ⟨kvs, ks, g.keep _ _ h2 hs, r⟩, g.keep _ _ h3 hc, cn⟩
theorem WAt.mono {H : Hp} {w sd cl : Addr} {st : WS} {n m : Nat} (h : WAt H w sd cl st n) (l : n ≤ m) : WAt H w sd cl st m := by
  obtain ⟨hw, ⟨kvs, ks, hs, r1, r2, r3, r4⟩, hc, cn⟩ := h
  exact ⟨hw, ⟨kvs, ks, hs, r1, r2, by omega, r4⟩, hc, by omega⟩
theorem SeatsAt.keys {H : Hp} {sd : Addr} {f : Int → Option Int} {n : Nat} {kvs : List (Key × V)} (h : SeatsAt H sd f n) (e : H sd = some (.dK kvs)) : ∀ k ∈ kvs.map (·.1), ∃ i, k = Sum.inl i := by
  obtain ⟨kvs', ks, hs, r1, _⟩ := h
  rw [e] at hs
  cases hs
  intro k hk
  rw [r1] at hk
  obtain ⟨i, _, q⟩ := List.mem_map.mp hk
  exact ⟨i, q.symm⟩
theorem WAt.ne1 {H : Hp} {w sd cl : Addr} {st : WS} {n : Nat} (h : WAt H w sd cl st n) : w ≠ sd := fun e => by
  have hw := h.w
  rw [e] at hw
  obtain ⟨i, q⟩ := h.s.keys hw (.inr "seats") (by simp)
  cases q
theorem WAt.ne2 {H : Hp} {w sd cl : Addr} {st : WS} {n : Nat} (h : WAt H w sd cl st n) : w ≠ cl := ne_of h.w h.c (by intro q; cases q)
theorem WAt.ne3 {H : Hp} {w sd cl : Addr} {st : WS} {n : Nat} (h : WAt H w sd cl st n) : sd ≠ cl := by
  obtain ⟨kvs, ks, hs, _⟩ := h.s
  exact ne_of hs h.c (by intro q; cases q)
theorem s_sc : ¬ (("seats" : Str) = "copies") := by decide +kernel
theorem s_sm : ¬ (("seats" : Str) = "many") := by decide +kernel
theorem s_cm : ¬ (("copies" : Str) = "many") := by decide +kernel
theorem k_sc : ¬ ((Sum.inr ("seats" : Str) : Key) = (Sum.inr ("copies" : Str) : Key)) := fun e => s_sc (Sum.inr.inj e)
theorem k_sm : ¬ ((Sum.inr ("seats" : Str) : Key) = (Sum.inr ("many" : Str) : Key)) := fun e => s_sm (Sum.inr.inj e)
theorem k_cm : ¬ ((Sum.inr ("copies" : Str) : Key) = (Sum.inr ("many" : Str) : Key)) := fun e => s_cm (Sum.inr.inj e)
theorem wK_seats {sd cl : Addr} {m : Int} : valV (wK sd cl m) (.inr "seats") = some (.ref sd) := valV_pos rfl
theorem wK_copies {sd cl : Addr} {m : Int} : valV (wK sd cl m) (.inr "copies") = some (.ref cl) := (valV_neg k_sc).trans (valV_pos rfl)
theorem wK_many {sd cl : Addr} {m : Int} : valV (wK sd cl m) (.inr "many") = some (.int m) := (valV_neg k_sm).trans ((valV_neg k_cm).trans (valV_pos rfl))
theorem wK_put {sd cl : Addr} {m j : Int} : putK (wK sd cl m) (.inr "many") (.int j) = wK sd cl j := by
  unfold putK wK
  simp [s_sm, s_cm]
theorem wK_merge {sd cl : Addr} {m : Int} : mergeK [] (wK sd cl m) = wK sd cl m := by
  unfold mergeK wK
  simp only [List.foldl_cons, List.foldl_nil]
  have e1 : putK ([] : List (Key × V)) (.inr "seats") (.ref sd) = [(.inr "seats", .ref sd)] := rfl
  rw [e1, putK_new _ ((valV_neg k_sc).trans valV_nil)]
  rw [putK_new _ (by exact (valV_neg k_sm).trans ((valV_neg k_cm).trans valV_nil))]
  rfl
theorem SeatsAt.put {H : Hp} {sd : Addr} {f : Int → Option Int} {n : Nat} {kvs : List (Key × V)} {r p : Int} (h : SeatsAt H sd f n) (e : H sd = some (.dK kvs)) :
    SeatsAt (upd H sd (.dK (putK kvs (.inl r) (.int p)))) sd (fun i => if i = r then some p else f i) (n + 1) := by
  obtain ⟨kvs', ks, hs, r1, r2, r3, r4, r5⟩ := h
  rw [e] at hs
  cases hs
  by_cases hr : r ∈ ks
  · refine ⟨_, ks, upd_same, ?_, r2, by omega, fun i => ?_, fun i => ?_⟩
    · rw [← r1]
      unfold putK
      rw [if_pos]
      · rw [List.map_map]
        refine List.map_congr_left fun x _ => ?_
        show (if x.1 = Sum.inl r then (x.1, V.int p) else x).1 = x.1
        split <;> rfl
      · have : (Sum.inl r : Key) ∈ kvs.map (·.1) := by rw [r1]; exact List.mem_map.mpr ⟨r, hr, rfl⟩
        obtain ⟨x, hx, q⟩ := List.mem_map.mp this
        exact List.any_eq_true.mpr ⟨x, hx, decide_eq_true q⟩
    · show i ∈ ks ↔ (if i = r then some p else f i).isSome = true
      by_cases q : i = r
      · subst q; simp [hr]
      · rw [if_neg q]; exact r4 i
    · rw [valV_put]
      by_cases q : i = r
      · subst q; simp
      · rw [if_neg (fun z => q (Sum.inl.inj z)), r5 i]
        show _ = Option.map V.int (if i = r then some p else f i)
        rw [if_neg q]
  · have hv : valV kvs (.inl r) = none := by
      rw [r5]
      cases q : f r with
      | none => rfl
      | some z => exact (hr ((r4 r).mpr (by rw [q]; rfl))).elim
    refine ⟨_, ks ++ [r], upd_same, ?_, nd_snoc r2 hr, by rw [List.length_append, List.length_singleton]; omega, fun i => ?_, fun i => ?_⟩
    · rw [putK_new _ hv, List.map_append, List.map_append, r1]
      rfl
    · show i ∈ ks ++ [r] ↔ (if i = r then some p else f i).isSome = true
      rw [List.mem_append, List.mem_singleton]
      by_cases q : i = r
      · subst q; simp
      · rw [if_neg q]
        constructor
        · intro z; exact (r4 i).mp (z.resolve_right q)
        · intro z; exact .inl ((r4 i).mpr z)
    · rw [valV_put]
      by_cases q : i = r
      · subst q; simp
      · rw [if_neg (fun z => q (Sum.inl.inj z)), r5 i]
        show _ = Option.map V.int (if i = r then some p else f i)
        rw [if_neg q]
section
variable {H : Hp} {w sd cl : Addr} {st : WS} {n : Nat}
theorem WAt.g_seats (h : WAt H w sd cl st n) : DGet H w (.str "seats") (some (.ref sd)) := by
  have q := DGet.k (k := .inr "seats") h.w
  rw [wK_seats] at q
  exact q
theorem WAt.g_copies (h : WAt H w sd cl st n) : DGet H w (.str "copies") (some (.ref cl)) := by
  have q := DGet.k (k := .inr "copies") h.w
  rw [wK_copies] at q
  exact q
theorem WAt.g_many (h : WAt H w sd cl st n) : DGet H w (.str "many") (some (.int st.many)) := by
  have q := DGet.k (k := .inr "many") h.w
  rw [wK_many] at q
  exact q
theorem WAt.g_seat (h : WAt H w sd cl st n) (r : Int) : DGet H sd (.int r) ((st.seats r).map V.int) := by
  obtain ⟨kvs, ks, hs, _, _, _, _, h5⟩ := h.s
  have q := DGet.k (k := .inl r) hs
  rw [h5] at q
  exact q
theorem WAt.p_many (h : WAt H w sd cl st n) (j : Int) : DPut H w (.str "many") (.int j) (upd H w (.dK (wK sd cl j))) := by
  have q := DPut.k (k := .inr "many") (v := .int j) h.w (by show 3 < sizeLine; decide)
  rw [wK_put] at q
  exact q
theorem WAt.many (h : WAt H w sd cl st n) (j : Int) : WAt (upd H w (.dK (wK sd cl j))) w sd cl { st with many := j } n := by
  obtain ⟨kvs, ks, hs, r⟩ := h.s
  exact ⟨upd_same, ⟨kvs, ks, by rw [upd_ne h.ne1.symm]; exact hs, r⟩, by rw [upd_ne h.ne2.symm]; exact h.c, h.cn⟩
theorem WAt.p_seat (h : WAt H w sd cl st n) (hn : n ≤ 1000) (r p : Int) : ∃ o, DPut H sd (.int r) (.int p) (upd H sd o) ∧ WAt (upd H sd o) w sd cl (st.seat r p) (n + 1) ∧ Gr [w, sd, cl] H (upd H sd o) := by
  obtain ⟨kvs, ks, hs, q1, q2, q3, q4⟩ := id h.s
  have hl : kvs.length < sizeLine := by
    have e : kvs.length = ks.length := by rw [← List.length_map (f := (·.1)), q1, List.length_map]
    rw [e]
    exact Nat.lt_of_le_of_lt (Nat.le_trans q3 hn) (by decide)
  refine ⟨_, DPut.k (k := .inl r) hs hl, ⟨?_, h.s.put hs, ?_, Nat.le_succ_of_le h.cn⟩, Gr.mutD hs (by simp)⟩
  · rw [upd_ne h.ne1]; exact h.w
  · rw [upd_ne h.ne3.symm]; exact h.c
end
/-! ### data: how deep, and that it can be compared -/
def Sh (d : PyData) (n : Nat) : Prop := d.canLay0 = true ∧ d.depth ≤ n
def ShA (ds : List PyData) (n : Nat) : Prop := PyData.canLayAll0 ds = true ∧ PyData.depthAll ds ≤ n
theorem ShA.nil {n : Nat} : ShA [] n := ⟨by simp [PyData.canLayAll0], by simp [PyData.depthAll]⟩
theorem ShA.cons {d : PyData} {ds : List PyData} {n : Nat} (h : Sh d n) (t : ShA ds n) : ShA (d :: ds) n := ⟨by simp [PyData.canLayAll0, h.1, t.1], by
  have h1 := h.2
  have h2 := t.2
  simp only [PyData.depthAll]
  omega⟩
theorem ShA.of : ∀ {ds : List PyData} {n : Nat}, (∀ d ∈ ds, Sh d n) → ShA ds n
  | [], _, _ => .nil
  | d :: ds, n, h => .cons (h d (by simp)) (ShA.of fun e he => h e (by simp [he]))
theorem ShA.append : ∀ {a b : List PyData} {n : Nat}, ShA a n → ShA b n → ShA (a ++ b) n
  | [], b, n, _, h => h
  | d :: a, b, n, h, h' => by
    have h1 := h.1
    have h2 := h.2
    simp only [PyData.canLayAll0, Bool.and_eq_true] at h1
    simp only [PyData.depthAll] at h2
    exact .cons ⟨h1.1, by omega⟩ (ShA.append ⟨h1.2, by omega⟩ h')
theorem ShA.list {ds : List PyData} {n : Nat} (h : ShA ds n) : Sh (.list ds) (n + 1) := ⟨by simp only [PyData.canLay0]; exact h.1, by simp only [PyData.depth]; have := h.2; omega⟩
theorem ShA.tuple {ds : List PyData} {n : Nat} (h : ShA ds n) : Sh (.tuple ds) (n + 1) := ⟨by simp only [PyData.canLay0]; exact h.1, by simp only [PyData.depth]; have := h.2; omega⟩
theorem Sh.int {i : Int} {n : Nat} : Sh (.int i) n := ⟨by simp [PyData.canLay0], by simp [PyData.depth]⟩
theorem Sh.none {n : Nat} : Sh .none n := ⟨by simp [PyData.canLay0], by simp [PyData.depth]⟩
theorem Sh.str {x : Str} {n : Nat} (h : PyData.strOk x = true) : Sh (.str x) n := ⟨by simp only [PyData.canLay0]; exact h, by simp [PyData.depth]⟩
theorem Sh.mono {d : PyData} {n m : Nat} (h : Sh d n) (l : n ≤ m) : Sh d m := ⟨h.1, Nat.le_trans h.2 l⟩
theorem ShA.mono {d : List PyData} {n m : Nat} (h : ShA d n) (l : n ≤ m) : ShA d m := ⟨h.1, Nat.le_trans h.2 l⟩
theorem Sh.shaped {d : PyData} {n : Nat} (h : Sh d n) (l : n ≤ 64 := by decide) : SeqAt.shaped d = true := by
  unfold SeqAt.shaped
  rw [h.1, decide_eq_true (Nat.le_trans h.2 l)]
  rfl
theorem ShA.ints {n : Nat} : ∀ ns : List Int, ShA (ns.map PyData.int) n
  | [] => .nil
  | i :: r => .cons .int (ShA.ints r)
/-- a list of data beside a new empty one -/
theorem w_neNil {K : PySem.W.Frag} {H : Hp} {Q : VK} {a p : Addr} {xs : List V} {ds : List PyData} {n : Nat} (h : SqL K H a xs) (hd : DpAll K H xs ds) (hs : ShA ds n) (l : n ≤ 63 := by decide) (he : H p = some (.lst [])) (k : Q (.bl (!ds.isEmpty)) H) : rNeD K (.ref a) (.ref p) H Q :=
  ⟨.list ds, .list [], .lst h hd, .lst (SqL.of he) .nil, hs.list.shaped (by omega), (ShA.nil (n := 0)).list.shaped, by
    have e : PyData.eqv (.list ds) (.list []) = ds.isEmpty := by cases ds <;> simp [PyData.eqv, PyData.eqvAll]
    rw [e]
    exact k⟩
/-- a list of ints beside a new empty one -/
theorem dp_ints {K : PySem.W.Frag} {H : Hp} : ∀ ns : List Int, DpAll K H (ns.map V.int) (ns.map PyData.int)
  | [] => .nil
  | i :: r => .cons (.int i) (dp_ints r)
end PK

set_option Elab.async false
set_option linter.all false
set_option maxRecDepth 100000
/-! A def that stands at its name and keeps a promise. -/
namespace PK
open PySem L2
/-- a def of the text stands at its name -/
structure Df (K : PySem.W.Frag) (mg : Str → Option Value) (x : Str) (st : Stmt) (ps : List Str) : Prop where
  ex : ∃ f fd, Fun K x x st f fd ∧ mg x = some (.ref f) ∧ Binds K fd ps []
/-- .. and keeps its promise -/
structure Has (P : Program) (w : World) (K : PySem.W.Frag) (mg : Str → Option Value) (base : Heap) (k : Nat) (x : Str) (ps : List Str) (sp : Sp) : Prop where
  ex : ∃ f fd, FnOk P w K mg base CX0 k f fd ps sp ∧ mg x = some (.ref f) ∧ PySem.W.keepIn K (.ref f) = true ∧ Binds K fd ps []
section
variable {P : Program} {w : World} {K : PySem.W.Frag} {mg : Str → Option Value} {base : Heap}
theorem Has.mk' {k : Nat} {x : Str} {st : Stmt} {ps : List Str} {sp : Sp} (D : Df K mg x st ps) (h : ∀ f fd, Fun K x x st f fd → FnOk P w K mg base CX0 k f fd ps sp) : Has P w K mg base k x ps sp := by
  obtain ⟨f, fd, F, m, b⟩ := D.ex
  exact ⟨f, fd, h f fd F, m, F.kp, b⟩
theorem Has.mono {j k : Nat} {x : Str} {ps : List Str} {sp : Sp} (h : Has P w K mg base j x ps sp) (l : j ≤ k) : Has P w K mg base k x ps sp := by
  obtain ⟨f, fd, F, r⟩ := h.ex
  exact ⟨f, fd, F.mono l, r⟩
theorem Has.imp {k : Nat} {x : Str} {ps : List Str} {sp sp' : Sp} (h : Has P w K mg base k x ps sp) (i : ∀ vs H Q E, sp' vs H Q E → sp vs H Q E) : Has P w K mg base k x ps sp' := by
  obtain ⟨f, fd, F, r⟩ := h.ex
  exact ⟨f, fd, F.imp i, r⟩
end
section
variable {X : Cx} {k : Nat} {x : Str} {ps : List Str} {sp : Sp} {e : Expr} {es : List Expr} {pos p : Pos} {t : TA}
theorem pe_callH (D : Has X.prog X.w X.K X.mg X.base k x ps sp) (hr : Room k X.A) (hg : Gl X x) (ha : PA X (e :: es) t) (hdb : (x == ("__debug__" : Str)) = false := by decide)
    (he : starEach (e :: es) X.env = (false, eval e X.env) :: starEach es X.env := by rfl) (hpl : (backTo pos (starEach es X.env)).any (·.1) = false := by rfl) :
    PE X (.Call (.Name x p) (e :: es) [] pos) (tCall sp [] E0 t) := by
  obtain ⟨f, fd, F, m, kp, b⟩ := D.ex
  exact pe_call F hr hg m kp b .nil pass0 ha hdb he hpl
end
/-! ### rules that read lists, with the written part K told: for a comprehension's block -/
section
variable {X : Cx} {K : PySem.W.Frag}
theorem ix_listK (hK : X.K = K := by rfl) : IxR X (rIxL K) := by subst hK; exact ix_list
theorem ix_tupK (hK : X.K = K := by rfl) : IxR X (rIxT K) := by subst hK; exact ix_tup
theorem ix_seqK (hK : X.K = K := by rfl) : IxR X (rIx K) := by subst hK; exact ix_seq
theorem op_in_seqK (hK : X.K = K := by rfl) : OpR X (compareOp .In) (rIn K false) := by subst hK; exact op_in_seq
theorem op_notIn_seqK (hK : X.K = K := by rfl) : OpR X (compareOp .NotIn) (rIn K true) := by subst hK; exact op_notIn_seq
theorem op_eqDK (hu : X.A.units + 64 < cLine) (hK : X.K = K := by rfl) : OpR X (compareOp .Eq) (rEqD K) := by subst hK; exact op_eqD hu
theorem op_neDK (hu : X.A.units + 64 < cLine) (hK : X.K = K := by rfl) : OpR X (compareOp .NotEq) (rNeD K) := by subst hK; exact op_neD hu
theorem sl_listK (hK : X.K = K := by rfl) : SlR X (rSlL K) := by subst hK; exact sl_list
theorem sl_tupAK (hK : X.K = K := by rfl) : SlR X (rSlA K) := by subst hK; exact sl_tupA
theorem op_catAK (hK : X.K = K := by rfl) : OpR X (binaryOp .Add) (rCatA K) := by subst hK; exact op_catA
def rLenQ (K : PySem.W.Frag) : List V → Hp → VK → Prop := fun xs H Q => ∃ p ys, xs = [.ref p] ∧ (SqL K H p ys ∨ SqT K H p ys) ∧ Q (.int ys.length) H
theorem call_len_seqK (hK : X.K = K := by rfl) : CallR X (.builtin "len") (rLenQ K) := by subst hK; exact call_len_seq
def rListQ (K : PySem.W.Frag) : List V → Hp → VK → Prop := fun xs H Q => ∃ p ys, xs = [.ref p] ∧ (SqL K H p ys ∨ SqT K H p ys) ∧ ∀ l, H l = none → Q (.ref l) (upd H l (.lst ys))
theorem call_list_ofK (hK : X.K = K := by rfl) : CallR X (.type "list") (rListQ K) := by subst hK; exact call_list_of
def rTupQ (K : PySem.W.Frag) : List V → Hp → VK → Prop := fun xs H Q => ∃ p ys, xs = [.ref p] ∧ ((SqL K H p ys ∧ ∀ l, H l = none → Q (.ref l) (upd H l (.tup ys))) ∨ (SqT K H p ys ∧ Q (.ref p) H))
theorem call_tuple_ofK (hK : X.K = K := by rfl) : CallR X (.type "tuple") (rTupQ K) := by subst hK; exact call_tuple_of
theorem cr_sumK (hc : X.calm = true) (hK : X.K = K := by rfl) : CallR X (.builtin "sum") (rSum K) := by subst hK; exact cr_sum hc
theorem cr_allK (hc : X.calm = true) (hK : X.K = K := by rfl) : CallR X (.builtin "all") (rAll K) := by subst hK; exact cr_all hc
theorem cr_anyK (hc : X.calm = true) (hK : X.K = K := by rfl) : CallR X (.builtin "any") (rAny K) := by subst hK; exact cr_any hc
theorem call_isiK' (hK : X.K = K := by rfl) : CallR X (.builtin "isinstance") (rIsi K) := by subst hK; exact call_isi
theorem call_isiTK (hK : X.K = K := by rfl) : CallR X (.builtin "isinstance") (rIsiT K) := by subst hK; exact call_isiT
theorem cr_sortedIK (hK : X.K = K := by rfl) : CallR X (.builtin "sorted") (rSortedI K) := by subst hK; exact cr_sortedI
end
end PK

set_option Elab.async false
set_option linter.all false
set_option maxRecDepth 100000
/-! Loops and comprehensions, by a word of the turn; the law's dict made. -/
namespace PK
open PySem L2
section
variable {K : PySem.W.Frag} {σ : L2.St} {H : Hp} {Q : VK} {D : Ends} {J : It} {g : TG} {tb : TS} {wi : TI} {tt : TT} {te : TE} {vs : List Nat} {n : Nat} {G : Hp → Prop} {Y : Nat → Hp → V → Hp → Prop}
/-- a for over J, said once -/
def Lp (J : It) (g : TG) (tb : TS) (D : Ends) (σ : L2.St) (H : Hp) : Prop := ∃ W : Nat → Nat → L2.St → Hp → Prop, (∃ m, W 0 m σ H) ∧ ∀ i m σ H, W i m σ H →
  (J.stop i H ∧ D.nx σ H) ∨ (J.go i H ∧ ∃ N : L2.St → Hp → Prop, (∀ σ' H', N σ' H' → ∃ m', m' < m ∧ W (i + 1) m' σ' H') ∧ ∀ x H', J.yld i H x H' → g x σ H' fun σ2 H2 => tb { D with nx := N, ct := N, bk := D.nx } σ2 H2)
theorem w_for (k : wi σ H fun J H1 => Lp J g tb D σ H1) : tFor wi g tb D σ H := k
theorem lp_it (w : Walk J n G Y) (Pv : Nat → L2.St → Hp → Prop) (h0 : Pv 0 σ H) (hG : ∀ i σ H, i ≤ n → Pv i σ H → G H)
    (hs : ∀ i x σ H H', i < n → Pv i σ H → Y i H x H' → g x σ H' fun σ2 H2 => tb { D with nx := Pv (i + 1), ct := Pv (i + 1), bk := D.nx } σ2 H2) (hd : ∀ σ H, Pv n σ H → D.nx σ H) : Lp J g tb D σ H := for_it w Pv h0 hG hs hd
theorem lp_range {lo : Int} (Pv : Nat → L2.St → Hp → Prop) (h0 : Pv 0 σ H)
    (hs : ∀ i σ H, i < n → Pv i σ H → g (.int (lo + i)) σ H fun σ2 H2 => tb { D with nx := Pv (i + 1), ct := Pv (i + 1), bk := D.nx } σ2 H2) (hd : ∀ σ H, Pv n σ H → D.nx σ H) : Lp (Itr lo n) g tb D σ H := for_range Pv h0 hs hd
theorem lp_list {a : Addr} {xs : List V} (Pv : Nat → L2.St → Hp → Prop) (h0 : Pv 0 σ H) (hl : ∀ i σ H, i ≤ xs.length → Pv i σ H → SqL K H a xs)
    (hs : ∀ i x σ H, xs[i]? = some x → Pv i σ H → g x σ H fun σ2 H2 => tb { D with nx := Pv (i + 1), ct := Pv (i + 1), bk := D.nx } σ2 H2) (hd : ∀ σ H, Pv xs.length σ H → D.nx σ H) : Lp (Itl K a) g tb D σ H := for_list Pv h0 hl hs hd
theorem lp_tup {a : Addr} {xs : List V} (Pv : Nat → L2.St → Hp → Prop) (h0 : Pv 0 σ H) (hl : ∀ i σ H, i ≤ xs.length → Pv i σ H → SqT K H a xs)
    (hs : ∀ i x σ H, xs[i]? = some x → Pv i σ H → g x σ H fun σ2 H2 => tb { D with nx := Pv (i + 1), ct := Pv (i + 1), bk := D.nx } σ2 H2) (hd : ∀ σ H, Pv xs.length σ H → D.nx σ H) : Lp (Itt K a) g tb D σ H := for_tup Pv h0 hl hs hd
/-- a comprehension over J, said once -/
def Lc (J : It) (g : TG) (tt : TT) (te : TE) (vs : List Nat) (σ : L2.St) (H1 : Hp) (Q : VK) : Prop := ∀ D, H1 D = none → ∃ W : Nat → Nat → Hp → Prop, (∃ m, W 0 m (upd H1 D (.lst []))) ∧ ∀ i m H, W i m H →
  (J.stop i H ∧ Q (.ref D) H) ∨ (J.go i H ∧ ∃ Nx : Hp → Prop, (∀ H', Nx H' → ∃ m', m' < m ∧ W (i + 1) m' H') ∧ ∀ x H', J.yld i H x H' → g x (wipe σ vs) H' fun σ2 H2 => wipe σ2 vs = wipe σ vs ∧ tt σ2 H2 fun b H3 =>
    if b = true then te σ2 H3 fun y H4 => ∃ acc, H4 D = some (.lst acc) ∧ acc.length < sizeLine ∧ Nx (upd H4 D (.lst (acc ++ [y]))) else Nx H3)
theorem w_lc (k : wi σ H fun J H1 => Lc J g tt te vs σ H1 Q) : tLc wi g tt te vs σ H Q := k
/-- R: by the new list's address, the turn, what it holds, the heap -/
def LcW (R : Addr → Nat → List V → Hp → Prop) (D : Addr) (i : Nat) (H : Hp) : Prop := ∃ acc, H D = some (.lst acc) ∧ acc.length ≤ i ∧ R D i acc H
def LcY (R : Addr → Nat → List V → Hp → Prop) (D : Addr) (i : Nat) (y : V) (H : Hp) : Prop := ∃ acc, H D = some (.lst acc) ∧ acc.length < sizeLine ∧ LcW R D (i + 1) (upd H D (.lst (acc ++ [y])))
theorem lc_yes {R : Addr → Nat → List V → Hp → Prop} {D : Addr} {i : Nat} {y : V} {acc : List V} {H : Hp} (h : H D = some (.lst acc)) (l : acc.length ≤ i) (hi : i < 100000) (r : R D (i + 1) (acc ++ [y]) (upd H D (.lst (acc ++ [y])))) : LcY R D i y H :=
  ⟨acc, h, Nat.lt_of_le_of_lt l (Nat.lt_of_lt_of_le hi (by decide)), acc ++ [y], upd_same, by rw [List.length_append, List.length_singleton]; omega, r⟩
theorem lc_no {R : Addr → Nat → List V → Hp → Prop} {D : Addr} {i : Nat} {acc : List V} {H : Hp} (h : H D = some (.lst acc)) (l : acc.length ≤ i) (r : R D (i + 1) acc H) : LcW R D (i + 1) H := ⟨acc, h, by omega, r⟩
theorem lc_go (w : Walk J n G Y) (R : Addr → Nat → List V → Hp → Prop) (h0 : ∀ D, H D = none → R D 0 [] (upd H D (.lst []))) (hG : ∀ D i acc H', i ≤ n → R D i acc H' → G H')
    (hs : ∀ D i acc x H' H2, H D = none → i < n → H' D = some (.lst acc) → acc.length ≤ i → R D i acc H' → Y i H' x H2 → g x (wipe σ vs) H2 fun σ2 H3 => wipe σ2 vs = wipe σ vs ∧ tt σ2 H3 fun b H4 =>
      if b = true then te σ2 H4 fun y H5 => LcY R D i y H5 else LcW R D (i + 1) H4)
    (hd : ∀ D acc H', H D = none → H' D = some (.lst acc) → acc.length ≤ n → R D n acc H' → Q (.ref D) H') : Lc J g tt te vs σ H Q := fun D hD =>
  lc_it w (fun i H' => LcW R D i H') ⟨[], upd_same, Nat.le_refl _, h0 D hD⟩ (fun i H' hi ⟨acc, _, _, r⟩ => hG D i acc H' hi r)
    (fun i x H' H2 hi ⟨acc, e, l, r⟩ y => hs D i acc x H' H2 hD hi e l r y) fun H' ⟨acc, e, l, r⟩ => hd D acc H' hD e l r
theorem w_rng1 {ta : TA} {R : It → Hp → Prop} (k : ta σ H fun vs H1 => ∃ j : Int, vs = [.int j] ∧ -(2 ^ 62) ≤ j ∧ j < 2 ^ 62 ∧ R (Itr 0 j.toNat) H1) : iRng1 ta σ H R := k
theorem w_itL {tl : TE} {R : It → Hp → Prop} (k : tl σ H fun x H1 => ∃ a, x = .ref a ∧ (∃ xs, SqL K H1 a xs) ∧ R (Itl K a) H1) : iList K tl σ H R := k
theorem w_itT {tl : TE} {R : It → Hp → Prop} (k : tl σ H fun x H1 => ∃ a, x = .ref a ∧ (∃ xs, SqT K H1 a xs) ∧ R (Itt K a) H1) : iTup K tl σ H R := k
theorem w_itS {te : TE} {R : It → Hp → Prop} (k : te σ H fun v H1 => ∃ x, v = .str x ∧ R (Its x) H1) : iStr te σ H R := k
theorem w_len {p : Addr} {xs : List V} (h : H p = some (.lst xs)) (k : Q (.int xs.length) H) : rLenQ K [.ref p] H Q := ⟨p, xs, rfl, .inl (SqL.of h), k⟩
theorem w_lenT {p : Addr} {xs : List V} (h : H p = some (.tup xs)) (k : Q (.int xs.length) H) : rLenQ K [.ref p] H Q := ⟨p, xs, rfl, .inr (SqT.of h), k⟩
theorem w_exR {P : Addr → Prop} {a : Addr} (k : P a) : ∃ b, V.ref a = .ref b ∧ P b := ⟨a, rfl, k⟩
/-- {'seats': {}, 'copies': [], 'many': 0} -/
theorem w_wdict (k : ∀ (w sd cl : Addr) (H' : Hp), H w = none → H sd = none → H cl = none → Gr [] H H' → WAt H' w sd cl .nil 0 → Q (.ref w) H') :
    tDisp [(tC (.str "seats"), tDNewK), (tC (.str "copies"), tLst tNil), (tC (.str "many"), tC (.int 0))] σ H Q := by
  intro w nw
  show ∀ sd, (upd H w (.dK [])) sd = none → _
  intro sd ns
  show 0 ≤ sizeLine ∧ ∀ cl, (upd (upd H w (.dK [])) sd (.dK [])) cl = none → _
  refine ⟨Nat.zero_le _, fun cl nc => ?_⟩
  have e1 : sd ≠ w := fun e => by rw [e, upd_same] at ns; cases ns
  have e2 : cl ≠ sd := fun e => by rw [e, upd_same] at nc; cases nc
  have e3 : cl ≠ w := fun e => by rw [e, upd_ne e1.symm, upd_same] at nc; cases nc
  have ns0 : H sd = none := by rw [upd_ne e1] at ns; exact ns
  have nc0 : H cl = none := by rw [upd_ne e2, upd_ne e3] at nc; exact nc
  refine ⟨by rw [upd_ne e3.symm, upd_ne e1.symm, upd_same], wK sd cl 0, rfl, by show 3 ≤ 15; decide, ?_⟩
  rw [wK_merge]
  refine k w sd cl _ nw ns0 nc0 ?_ ⟨upd_same, ⟨[], [], ?_, rfl, .nil, Nat.le_refl _, fun r => by simp [WS.nil], fun r => rfl⟩, ?_, Nat.le_refl _⟩
  · refine Gr.of_ex fun a o h => ?_
    have a1 : a ≠ w := ne_of_none h nw
    have a2 : a ≠ sd := ne_of_none h ns0
    have a3 : a ≠ cl := ne_of_none h nc0
    rw [upd_ne a1, upd_ne a3, upd_ne a2, upd_ne a1]
    exact h
  · rw [upd_ne e1, upd_ne e2.symm, upd_same]
  · rw [upd_ne e3, upd_same]
    rfl
theorem w_disp {trs : List (TE × TE)} (k : tDisp trs σ H Q) : tDisp trs σ H Q := k
end
/-! ### lists of flat tuples -/
def IsTp (H : Hp) (v : V) (xs : List V) : Prop := ∃ a, v = .ref a ∧ H a = some (.tup xs)
abbrev Tps (H : Hp) : List V → List (List V) → Prop := Paired (IsTp H)
theorem IsTp.gr {H H' : Hp} {M : List Addr} {v : V} {xs : List V} (h : IsTp H v xs) (g : Gr M H H') : IsTp H' v xs := by
  obtain ⟨a, q, h⟩ := h
  exact ⟨a, q, g.tup a _ h⟩
theorem Tps.gr {H H' : Hp} {M : List Addr} {xs : List V} {ys : List (List V)} (h : Tps H xs ys) (g : Gr M H H') : Tps H' xs ys := Paired.mono (fun _ _ q => q.gr g) h
/-- a plain value as data -/
def atomD : V → PyData
  | .bl b => .bool b
  | .int i => .int i
  | .str x => .str x
  | _ => .none
def Atom : V → Prop
  | .non => True
  | .bl _ => True
  | .int _ => True
  | .str x => PyData.strOk x = true
  | _ => False
theorem Atom.dp {K : PySem.W.Frag} {H : Hp} : ∀ {x : V}, Atom x → Dp K H x (atomD x)
  | .non, _ => .non
  | .bl b, _ => .bl b
  | .int i, _ => .int i
  | .str x, _ => .str x
theorem Atom.sh {n : Nat} : ∀ {x : V}, Atom x → Sh (atomD x) n
  | .non, _ => .none
  | .bl b, _ => ⟨by simp [atomD, PyData.canLay0], by simp [atomD, PyData.depth]⟩
  | .int i, _ => .int
  | .str x, h => .str h
theorem atoms_dp {K : PySem.W.Frag} {H : Hp} : ∀ {xs : List V}, (∀ x ∈ xs, Atom x) → DpAll K H xs (xs.map atomD)
  | [], _ => .nil
  | x :: xs, h => .cons (h x (by simp)).dp (atoms_dp fun y hy => h y (by simp [hy]))
theorem atoms_sh {n : Nat} : ∀ {xs : List V}, (∀ x ∈ xs, Atom x) → ShA (xs.map atomD) n
  | [], _ => .nil
  | x :: xs, h => .cons (h x (by simp)).sh (atoms_sh fun y hy => h y (by simp [hy]))
def tpD (xs : List V) : PyData := .tuple (xs.map atomD)
theorem tps_dp {K : PySem.W.Frag} {H : Hp} : ∀ {vs : List V} {ys : List (List V)}, Tps H vs ys → (∀ y ∈ ys, ∀ x ∈ y, Atom x) → DpAll K H vs (ys.map tpD)
  | _, _, .nil, _ => .nil
  | _, _, .cons ⟨a, e, h⟩ t, f => by
    subst e
    exact .cons (.tup (SqT.of h) (atoms_dp (f _ (by simp)))) (tps_dp t fun y hy => f y (by simp [hy]))
theorem tps_sh {n : Nat} : ∀ {ys : List (List V)}, (∀ y ∈ ys, ∀ x ∈ y, Atom x) → ShA (ys.map tpD) (n + 1)
  | [], _ => .nil
  | y :: ys, f => .cons (atoms_sh (n := n) (f y (by simp))).tuple (tps_sh fun z hz => f z (by simp [hz]))
/-! ### the entries of a row of events -/
def Ev.kok : Ev → Prop
  | .put k _ => KeyOk k
  | .drop k => KeyOk k
  | _ => True
theorem Ev.ok_kok {e : Ev} (h : e.ok) : e.kok := by cases e <;> first | exact h.1 | exact h | trivial
def Ev.row (i : Nat) : Ev → List (List V)
  | .put k v => [[.int (i : Nat), .str k, .int v]]
  | .drop k => [[.int (i : Nat), .str k, .non]]
  | _ => []
def rowsV : Nat → List Ev → List (List V)
  | _, [] => []
  | i, e :: es => e.row i ++ rowsV (i + 1) es
theorem rowsV_append : ∀ (a b : List Ev) (i : Nat), rowsV i (a ++ b) = rowsV i a ++ rowsV (i + a.length) b
  | [], _, _ => rfl
  | e :: a, b, i => by
    show e.row i ++ rowsV (i + 1) (a ++ b) = (e.row i ++ rowsV (i + 1) a) ++ rowsV (i + (a.length + 1)) b
    rw [rowsV_append a b (i + 1), List.append_assoc]
    have z : i + 1 + a.length = i + (a.length + 1) := by omega
    rw [z]
theorem rowsV_take {es : List Ev} {i : Nat} {e : Ev} (he : es[i]? = some e) : rowsV 0 (es.take (i + 1)) = rowsV 0 (es.take i) ++ e.row i := by
  have hi : i < es.length := (List.getElem?_eq_some_iff.mp he).1
  rw [take_snoc he, rowsV_append, List.length_take, Nat.min_eq_left (Nat.le_of_lt hi), Nat.zero_add]
  show _ ++ (e.row i ++ []) = _
  rw [List.append_nil]
theorem rowsV_len : ∀ (es : List Ev) (i : Nat), (rowsV i es).length ≤ es.length
  | [], _ => Nat.le_refl _
  | e :: es, i => by
    show (e.row i ++ rowsV (i + 1) es).length ≤ es.length + 1
    have h := rowsV_len es (i + 1)
    have h1 : (e.row i).length ≤ 1 := by cases e <;> simp [Ev.row]
    rw [List.length_append]
    omega
theorem keyOk_str {k : Str} (h : KeyOk k) : PyData.strOk k = true := by
  rcases h with h | h | h | h <;> subst h <;> decide +kernel
theorem rowsV_atom : ∀ {es : List Ev} {i : Nat}, (∀ e ∈ es, e.kok) → ∀ y ∈ rowsV i es, ∀ x ∈ y, Atom x
  | [], _, _, y, hy => by cases hy
  | e :: es, i, h, y, hy => by
    have hy : y ∈ e.row i ++ rowsV (i + 1) es := hy
    rcases List.mem_append.mp hy with z | z
    · have hk := h e (by simp)
      cases e with
      | put k v =>
        rw [show y = [.int (i : Nat), .str k, .int v] from List.mem_singleton.mp z]
        intro x hx
        simp only [List.mem_cons, List.not_mem_nil, or_false] at hx
        rcases hx with q | q | q <;> subst q
        · trivial
        · exact keyOk_str hk
        · trivial
      | drop k =>
        rw [show y = [.int (i : Nat), .str k, .non] from List.mem_singleton.mp z]
        intro x hx
        simp only [List.mem_cons, List.not_mem_nil, or_false] at hx
        rcases hx with q | q | q <;> subst q
        · trivial
        · exact keyOk_str hk
        · trivial
      | join r => cases z
      | read r u => cases z
      | save r => cases z
      | load r c => cases z
      | wait => cases z
    · exact rowsV_atom (fun e he => h e (by simp [he])) y z
/-! ### what holds of where readers are, along a row of events -/
structure Gd (st : WS) (n : Nat) : Prop where
  m0 : 0 ≤ st.many
  m1 : st.many ≤ n
  s : ∀ r p, st.seats r = some p → 0 ≤ p
  c : ∀ p ∈ st.copies, 0 ≤ p
  k : ∀ r p, st.seats r = some p → 0 ≤ r ∧ r < 4
theorem Gd.nil : Gd .nil 0 := ⟨Int.le_refl _, Int.le_refl _, (fun r p h => by cases h), (fun p h => by cases h), (fun r p h => by cases h)⟩
theorem Gd.mono {st : WS} {n m : Nat} (g : Gd st n) (l : n ≤ m) : Gd st m := ⟨g.m0, by have := g.m1; omega, g.s, g.c, g.k⟩
theorem Gd.seat {st : WS} {n : Nat} (g : Gd st n) (r p : Int) (h : 0 ≤ p) (hr : 0 ≤ r ∧ r < 4) : Gd (st.seat r p) (n + 1) := ⟨g.m0, by have := g.m1; show st.many ≤ _; omega, (fun i q e => by
  have e : (if i = r then some p else st.seats i) = some q := e
  split at e
  · cases e; exact h
  · exact g.s i q e), g.c, (fun i q e => by
  have e : (if i = r then some p else st.seats i) = some q := e
  split at e
  · rename_i z
    rw [z]
    exact hr
  · exact g.k i q e)⟩
theorem Gd.step {st : WS} {n : Nat} {e : Ev} (g : Gd st n) (h : e.ok) : Gd (st.step e) (n + 1) := by
  have m0 := g.m0
  have m1 := g.m1
  cases e with
  | put k v => exact ⟨by show 0 ≤ st.many + 1; omega, by show st.many + 1 ≤ _; omega, g.s, g.c, g.k⟩
  | drop k => exact ⟨by show 0 ≤ st.many + 1; omega, by show st.many + 1 ≤ _; omega, g.s, g.c, g.k⟩
  | join r => exact g.seat r 0 (Int.le_refl _) h
  | read r u => exact g.seat r u (Int.le_of_lt h.2) h.1
  | save r =>
    refine ⟨m0, by show st.many ≤ _; omega, g.s, fun p hp => ?_, g.k⟩
    have hp : p ∈ st.copies ++ [(st.seats r).getD 0] := hp
    rcases List.mem_append.mp hp with q | q
    · exact g.c p q
    · rw [List.mem_singleton] at q
      rw [q]
      cases z : st.seats r with
      | none => exact Int.le_refl _
      | some y => exact g.s r y z
  | load r c =>
    refine g.seat r _ ?_ h.1
    rw [List.getD_eq_getElem?_getD]
    cases z : st.copies[c.toNat]? with
    | none => exact Int.le_refl _
    | some y => exact g.c y (List.mem_of_getElem? z)
  | wait => exact g.mono (Nat.le_succ _)
theorem Gd.run {st : WS} : ∀ {n : Nat} {es : List Ev}, Gd st n → (∀ e ∈ es, e.ok) → Gd (st.run es) (n + es.length) := by
  intro n es
  induction es generalizing st n with
  | nil => intro g _; exact g
  | cons e es ih =>
    intro g h
    have q := ih (st := st.step e) (n := n + 1) (g.step (h e (by simp))) fun x hx => h x (by simp [hx])
    have e1 : n + (e :: es).length = n + 1 + es.length := by rw [List.length_cons]; omega
    rw [e1]
    exact q
theorem valid_reads : ∀ {rs : List Int} {st : WS}, rs.Nodup → (∀ r ∈ rs, ∃ p, st.seats r = some p ∧ p < st.many) → Valid st (rs.map fun r => Ev.read r st.many)
  | [], _, _, _ => True.intro
  | r :: rs, st, hn, h => by
    obtain ⟨p, hp, hlt⟩ := h r (by simp)
    obtain ⟨n1, n2⟩ := List.nodup_cons.mp hn
    refine ⟨⟨p, hp, hlt, Int.le_refl _⟩, ?_⟩
    refine valid_reads (st := st.step (.read r st.many)) n2 fun s hs => ?_
    obtain ⟨p', hp', hlt'⟩ := h s (by simp [hs])
    refine ⟨p', ?_, hlt'⟩
    show (if s = r then some st.many else st.seats s) = some p'
    rw [if_neg (show ¬ s = r from fun e => n1 (by rw [← e]; exact hs))]
    exact hp'
/-! ### lots: lists of puts and drops in a list -/
def Ev.ent : Ev → Prop
  | .put k v => KeyOk k ∧ 0 ≤ v ∧ v < 9
  | .drop k => KeyOk k
  | _ => False
theorem Ev.ent_ok {e : Ev} (h : e.ent) : e.ok := by cases e <;> first | exact h | exact h.elim
theorem Ev.ent_kok {e : Ev} (h : e.ent) : e.kok := Ev.ok_kok (Ev.ent_ok h)
theorem Ev.ent_fits {e : Ev} {st : WS} (h : e.ent) : st.fits e := by cases e <;> first | trivial | exact h.elim
def RowAt (H : Hp) (r : Addr) (es : List Ev) : Prop := ∃ xs, H r = some (.lst xs) ∧ Evs H xs es
structure LotsAt (H : Hp) (l : Addr) (rs : List Addr) (ess : List (List Ev)) : Prop where
  nd : rs.Nodup
  r : Paired (RowAt H) rs ess
  nl : l ∉ rs
  en : ∀ es ∈ ess, ∀ e ∈ es, e.ent
  l : H l = some (.lst (rs.map V.ref))
theorem RowAt.keep {H H' : Hp} {r : Addr} {es : List Ev} {M : List Addr} (h : RowAt H r es) (g : Gr M H H') (n : r ∉ M) : RowAt H' r es := by
  obtain ⟨xs, h1, h2⟩ := h
  exact ⟨xs, g.keep _ _ n h1, h2.gr g⟩
theorem rows_keep {H H' : Hp} {M : List Addr} (g : Gr M H H') : ∀ {rs : List Addr} {ess : List (List Ev)}, Paired (RowAt H) rs ess → (∀ r ∈ rs, r ∉ M) → Paired (RowAt H') rs ess
  | _, _, .nil, _ => .nil
  | _, _, .cons h t, n => .cons (h.keep g (n _ (by simp))) (rows_keep g t fun r hr => n r (by simp [hr]))
theorem LotsAt.keep {H H' : Hp} {l : Addr} {rs : List Addr} {ess : List (List Ev)} {M : List Addr} (h : LotsAt H l rs ess) (g : Gr M H H') (n1 : l ∉ M) (n2 : ∀ r ∈ rs, r ∉ M) : LotsAt H' l rs ess :=
  ⟨h.nd, rows_keep g h.r n2, h.nl, h.en, g.keep _ _ n1 h.l⟩
def total (ess : List (List Ev)) : Nat := (ess.map List.length).sum
theorem total_append (a b : List (List Ev)) : total (a ++ b) = total a + total b := by unfold total; rw [List.map_append, List.sum_append]
/-- the ints of a list of lengths -/
theorem sum_ints : ∀ ess : List (List Ev), ((ess.map fun es => ((es.length : Nat) : Int)).sum) = ((total ess : Nat) : Int)
  | [] => rfl
  | es :: r => by
    have ih := sum_ints r
    unfold total at *
    simp only [List.map_cons, List.sum_cons]
    rw [ih]
    omega
theorem mem_of_pr {α β : Type} {F : α → β → Prop} : ∀ {a : List α} {b : List β} {x : α}, Paired F a b → x ∈ a → ∃ y ∈ b, F x y
  | _, _, _, .nil, h => by cases h
  | _, _, x, .cons h t, hx => by
    rcases List.mem_cons.mp hx with z | z
    · subst z; exact ⟨_, by simp, h⟩
    · obtain ⟨y, hy, f⟩ := mem_of_pr t z
      exact ⟨y, by simp [hy], f⟩
theorem run_join {p : Int} : ∀ {s : WS} {es : List Ev}, Ev.join p ∈ es → ((s.run es).seats p).isSome = true
  | s, [], h => by cases h
  | s, e :: es, h => by
    rcases List.mem_cons.mp h with z | z
    · subst z
      refine run_some (s := s.step (.join p)) (es := es) ?_
      show (if p = p then some (0 : Int) else s.seats p).isSome = true
      rw [if_pos rfl]
      rfl
    · exact run_join (s := s.step e) z
theorem valid_triv : ∀ {s : WS} {es : List Ev}, (∀ e ∈ es, ∀ s : WS, s.fits e) → Valid s es
  | _, [], _ => True.intro
  | s, e :: es, h => ⟨h e (by simp) s, valid_triv fun x hx => h x (by simp [hx])⟩
/-- events as data -/
def evD (e : Ev) : PyData := tpD e.vs
theorem ev_atom {e : Ev} (h : e.kok) : ∀ x ∈ e.vs, Atom x := by
  intro x hx
  cases e <;> simp only [Ev.vs, List.mem_cons, List.not_mem_nil, or_false] at hx
  · rcases hx with q | q | q <;> subst q
    · show PyData.strOk "put" = true; decide +kernel
    · exact keyOk_str h
    · trivial
  · rcases hx with q | q <;> subst q
    · show PyData.strOk "drop" = true; decide +kernel
    · exact keyOk_str h
  · rcases hx with q | q <;> subst q
    · show PyData.strOk "join" = true; decide +kernel
    · trivial
  · rcases hx with q | q | q <;> subst q
    · show PyData.strOk "read" = true; decide +kernel
    · trivial
    · trivial
  · rcases hx with q | q <;> subst q
    · show PyData.strOk "save" = true; decide +kernel
    · trivial
  · rcases hx with q | q | q <;> subst q
    · show PyData.strOk "load" = true; decide +kernel
    · trivial
    · trivial
  · subst hx
    show PyData.strOk "wait" = true
    decide +kernel
theorem evs_dp {K : PySem.W.Frag} {H : Hp} : ∀ {xs : List V} {es : List Ev}, Evs H xs es → (∀ e ∈ es, e.kok) → DpAll K H xs (es.map evD)
  | _, _, .nil, _ => .nil
  | _, _, .cons ⟨a, e, h⟩ t, f => by
    subst e
    exact .cons (.tup (SqT.of h) (atoms_dp (ev_atom (f _ (by simp))))) (evs_dp t fun y hy => f y (by simp [hy]))
theorem evs_sh {n : Nat} : ∀ {es : List Ev}, (∀ e ∈ es, e.kok) → ShA (es.map evD) (n + 1)
  | [], _ => .nil
  | e :: es, f => .cons (atoms_sh (n := n) (ev_atom (f e (by simp)))).tuple (evs_sh fun z hz => f z (by simp [hz]))
theorem lots_dp {K : PySem.W.Frag} {H : Hp} : ∀ {rs : List Addr} {ess : List (List Ev)}, Paired (RowAt H) rs ess → (∀ es ∈ ess, ∀ e ∈ es, e.ent) → DpAll K H (rs.map V.ref) (ess.map fun es => PyData.list (es.map evD))
  | _, _, .nil, _ => .nil
  | _, _, .cons ⟨xs, h, he⟩ t, f => .cons (.lst (SqL.of h) (evs_dp he fun e q => Ev.ent_kok (f _ (by simp) e q))) (lots_dp t fun es q => f es (by simp [q]))
theorem lots_sh : ∀ {ess : List (List Ev)}, (∀ es ∈ ess, ∀ e ∈ es, e.ent) → ShA (ess.map fun es => PyData.list (es.map evD)) 2
  | [], _ => .nil
  | es :: ess, f => .cons (evs_sh (n := 0) fun e q => Ev.ent_kok (f es (by simp) e q)).list (lots_sh fun z q => f z (by simp [q]))
/-! ### other numbers of readers -/
def farR (r : Int) : Int := ([9, 10, 100, 1] : List Int).getD r.toNat 0
def Ev.far : Ev → Ev
  | .join r => .join (farR r)
  | .read r u => .read (farR r) u
  | .save r => .save (farR r)
  | .load r c => .load (farR r) c
  | e => e
theorem Ev.far_kok {e : Ev} (h : e.kok) : e.far.kok := by cases e <;> exact h
end PK

set_option Elab.async false
set_option linter.all false
set_option maxRecDepth 100000
/-! What is walked, list or tuple alike: a plain for, enumerate. -/
namespace PK
open PySem PySem.Spec PyProof.Rows L2

/-! ### one rule or another -/
theorem pi_alt {X : Cx} {tg e : Expr} {w1 w2 : TI} (h1 : PI X tg e w1) (h2 : PI X tg e w2) : PI X tg e (fun σ H R => w1 σ H R ∨ w2 σ H R) :=
  ⟨fun pins s σ H R I h => h.elim (h1.run pins s σ H R I) (h2.run pins s σ H R I)⟩
theorem pe_alt {X : Cx} {e : Expr} {t1 t2 : TE} (h1 : PE X e t1) (h2 : PE X e t2) : PE X e (fun σ H Q => t1 σ H Q ∨ t2 σ H Q) :=
  ⟨fun pins s σ H Q I h => h.elim (h1.run pins s σ H Q I) (h2.run pins s σ H Q I)⟩
def iSeq (K : PySem.W.Frag) (tl : TE) : TI := fun σ H R => iList K tl σ H R ∨ iTup K tl σ H R
theorem pi_seq {X : Cx} {tg l : Expr} {tl : TE} (hl : PE X l tl) : PI X tg l (iSeq X.K tl) := pi_alt (pi_list hl) (pi_tup hl)

/-! ### enumerate over a tuple -/
def IteT (K : PySem.W.Frag) (a : Addr) : It where
  go := fun i H => ∃ (xs : List V) (x : V), SqT K H a xs ∧ xs[i]? = some x
  yld := fun i H v H' => ∃ T x, v = .ref T ∧ H T = none ∧ H' = upd H T (.tup [.int (i : Nat), x]) ∧ ∀ xs, SqT K H a xs → xs[i]? = some x
  stop := fun i H => ∃ xs : List V, SqT K H a xs ∧ xs.length = i
def EnT (a e it : Addr) (i : Nat) (h : Heap) : Prop := (∃ old, IsEnum h e it ((i : Nat) : Int) old) ∧ h.IsTupleIter it a i ∧ e ≠ it ∧ e ≠ a ∧ a ≠ it
theorem turn_enT {P : Program} {w : World} {K : PySem.W.Frag} {elts : List Expr} {kk : Nat} {tpos : Pos} (a e it : Addr) : Turn P w K (.Tuple elts kk tpos) (IteT K a) [e, it] e (EnT a e it) where
  mem := List.mem_cons_self
  obj := by
    rintro i h ⟨⟨old, he⟩, ⟨o, ho, hc, hd⟩, _⟩ b hb
    rcases List.mem_cons.mp hb with z | z
    · subst z
      exact ⟨_, he, fun v q => by cases q⟩
    · rw [List.mem_singleton] at z
      subst z
      exact ⟨o, ho, fun v q => by rw [hd] at q; cases q⟩
  keep := by
    rintro i h h' ⟨⟨old, he⟩, hi, r⟩ k
    exact ⟨⟨old, k e List.mem_cons_self _ he⟩, hi.at fun o q => k it (by simp) o q, r⟩
  item := by
    rintro X rfl rfl rfl hc i pins s σ H E I hf ⟨⟨old, he⟩, hit, n1, n2, n3⟩ ⟨xs, x, hq, hx⟩
    obtain ⟨its, rv, p, hz⟩ := I.tuple hq
    obtain ⟨u, hu, ru⟩ := rv.get hx
    have le1 : e < s.heap.objs.size := Heap.lt_size he
    have le2 : it < s.heap.objs.size := hit.elim fun o q => Heap.lt_size q.1
    have hti : its.toArray[i]? = some u := by simpa using hu
    have hlt : i < its.toArray.size := (Array.getElem?_eq_some_iff.mp hti).1
    refine wpAny_pyNext_enum_itemD (Draws.tuple (prog := X.prog) (w := X.w) (A := X.A.in1) (I.ok.hd hc) it a n3 its.toArray) he ⟨hit, p⟩ hlt n1 (by simp [n1, n2]) fun y h1 tk hP ho hs hT hsz hk => ?_
    have ey : y = u := by
      have hP : its.toArray[i]? = some y := hP
      rw [hti] at hP
      exact (Option.some.inj hP).symm
    subst ey
    refine ⟨_, rfl, wpAny_letOwnedTupleGo_enum (s := { s with heap := h1, toks := tk + 1 }) ho fun h2 he2 sb => ?_⟩
    have hT2 : h2.get? s.heap.objs.size = some { cls := .type "tuple", data := .seq #[.int i tk, y] } := (sb.2 _ (Nat.ne_of_gt le1)).trans hT
    have made : ObjOk X.prog X.w (upd H s.heap.objs.size (.tup [.int (i : Nat), x])) h2 s.heap.objs.size (.tup [.int (i : Nat), x]) :=
      ⟨Nat.le_trans (by decide : 2 ≤ 1000) (by decide), [.int i tk, y], .cons ⟨tk, rfl⟩ (.cons ru .nil), ⟨_, hT2, rfl, _, rfl⟩⟩
    have kept : ∀ b o, b ∉ [e, it] → s.heap.get? b = some o → h2.get? b = some o := fun b o nb q => by
      have b1 : b ≠ e := fun z => nb (by simp [z])
      have b2 : b ≠ it := fun z => nb (by simp [z])
      exact (sb.2 b b1).trans (hk b o b1 b2 q)
    refine ⟨.ref s.heap.objs.size, _, I.turnedNew (t' := tk + 1) (ch := [e, it]) kept hf (Nat.le_refl _) made, rfl, ⟨_, x, rfl, I.hok.fresh (Nat.le_refl _), rfl, fun ys hy => ?_⟩, ⟨⟨y, ?_⟩, hs.1.at fun o q => (sb.2 it n1.symm).trans q, n1, n2, n3⟩, fun b hb => ?_⟩
    · rw [I.tuple_inj hy hq]
      exact hx
    · have e1 : ((i + 1 : Nat) : Int) = (i : Int) + 1 := by omega
      rw [e1]
      exact he2
    · have lb : b < s.heap.objs.size := by
        rcases List.mem_cons.mp hb with z | z
        · rw [z]; exact le1
        · rw [List.mem_singleton] at z; rw [z]; exact le2
      rw [upd_ne (Nat.ne_of_lt lb)]
      exact (hf b hb).1
  done := by
    rintro X rfl rfl rfl hc i pins s σ H E I hf ⟨⟨old, he⟩, hit, n1, n2, n3⟩ ⟨xs, hq, hx⟩
    obtain ⟨its, rv, p, hz⟩ := I.tuple hq
    obtain ⟨f0, f1, f2, f3, f4, f5⟩ := hf it (by simp)
    have hl := rv.length
    have ei : i = its.toArray.size := by rw [List.size_toArray, ← hl, hx]
    subst ei
    exact wpAny_pyNext_enum_endD (Draws.tuple (prog := X.prog) (w := X.w) (A := X.A.in1) (I.ok.hd hc) it a n3 its.toArray) he ⟨hit, p⟩ fun h1 eb => ⟨rfl, I.turned (t' := s.toks) (fun b o hb q => eb b o hb q) f0 f1 f3 f4 f5⟩
  self := fun A i s Q E st h => st.1.elim fun old he => wpAny_pyIter_enum he h
theorem walk_enT {K : PySem.W.Frag} {a : Addr} {xs : List V} : Walk (IteT K a) xs.length (fun H => SqT K H a xs) (YPair (fun i => some (.int (i : Nat))) (fun i => xs[i]?)) where
  goes := fun i H hi h => ⟨xs, xs[i], h, List.getElem?_eq_getElem hi⟩
  stops := fun H h => ⟨xs, h, rfl⟩
  yields := by
    rintro i H v H' hi h ⟨T, x, e1, e2, e3, e4⟩
    exact ⟨T, _, x, e1, e2, e3, rfl, e4 xs h⟩
set_option maxHeartbeats 1000000 in
/-- enumerate(v): what it makes -/
theorem meets_enum_new {v : Value} {o : Obj} {F : Heap → Prop} (B : Begins v o F) : Meets (Builtin.«enumerate.__new__» ⟨[.type "enumerate", v], []⟩)
    (fun _ R s => F s.heap ∧ R (.ok (.ret (.ref (s.heap.push o).objs.size))) { s with heap := (s.heap.push o).push { cls := .type "enumerate", data := .fields #[.none, .bool false, .ref s.heap.objs.size, rawInt 0, .none, .none] } }) := by
  refine .of_wp fun prog w A R s h => ?_
  obtain ⟨hp, g, d, tk, os⟩ := s
  obtain ⟨h1, h⟩ := h
  have hsub := sub_enumerate
  have q1 : ∀ {A' : Around} {E : Value → Shared → Prop} {Q : Value → Shared → Prop}, Q (.ref hp.objs.size) ⟨hp.push o, g, d, tk, os⟩ → wpAny (model prog w) A' (pyIter v) Q E ⟨hp, g, d, tk, os⟩ := fun q => B.iter prog w _ _ ⟨hp, g, d, tk, os⟩ _ h1 q
  wp_walk
  refine wpAny_stack_any fun st => wpAny_pure ?_
  split
  · rename_i c _ _ _ _ _
    cases (c == Value.type "enumerate") <;> (wp_walk using q1; exact ⟨_, rfl, h⟩)
  · wp_walk using q1
    exact ⟨_, rfl, h⟩
theorem enum_tup {prog : Program} {w : World} {A : Around} {E : Value → Shared → Prop} {s : Shared} {a : Addr} {items : Array Value} {Q : Value → Shared → Prop} (ht : s.heap.IsTuple a items)
    (k : ∀ h', IsEnum h' (s.heap.objs.size + 1) s.heap.objs.size 0 .none → h'.IsTupleIter s.heap.objs.size a 0 → (∀ b o, s.heap.get? b = some o → h'.get? b = some o) → Q (.ref (s.heap.objs.size + 1)) { s with heap := h' }) :
    wpAny (model prog w) A (call (.type "enumerate") [.ref a]) Q E s := by
  refine callType_new F.called_enumerate (by decide) (F.typeCall_enumerate_1 _) (F.newCall_enumerate_1 _) (fun obj => F.args_object_init_2 obj _) F.entry_enumerate_new (meets_enum_new (begins_tuple a items)) ⟨ht, ?_⟩
  generalize ho : ({ cls := .type "tuple_iterator", data := .fields #[.ref a, .int 0 0] } : Obj) = o
  have nf : o.isFreed = false := by rw [← ho]; rfl
  have hz : (s.heap.push o).objs.size = s.heap.objs.size + 1 := Heap.size_push ..
  show _ ∧ _
  have he := Heap.get?_push_size (s.heap.push o) (o := { cls := .type "enumerate", data := .fields #[.none, .bool false, .ref s.heap.objs.size, rawInt 0, .none, .none] }) rfl
  have hi := Heap.get?_push_of_some ({ cls := .type "enumerate", data := .fields #[.none, .bool false, .ref s.heap.objs.size, rawInt 0, .none, .none] } : Obj) (Heap.get?_push_size s.heap nf)
  rw [hz] at he ⊢
  exact ⟨⟨_, he, rfl⟩, k _ he ⟨o, hi, by rw [← ho], by rw [← ho]; rfl⟩ fun b u q => Heap.get?_push_of_some _ (Heap.get?_push_of_some _ q)⟩
def iEnT (K : PySem.W.Frag) (ta : TA) : TI := fun σ H R => ta σ H fun vs H1 => ∃ a xs, vs = [.ref a] ∧ SqT K H1 a xs ∧ R (IteT K a) H1
theorem pi_enT {X : Cx} {e : Expr} {ta : TA} {p pos tpos : Pos} {elts : List Expr} {kk : Nat} (hg : Gl X "enumerate") (hm : X.mg "enumerate" = none) (ha : PA X [e] ta) (hs : starEach [e] X.env = [(false, eval e X.env)] := by rfl) : PI X (.Tuple elts kk tpos) (.Call (.Name "enumerate" p) [e] [] pos) (iEnT X.K ta) where
  run := fun pins s σ H R I h => by
    refine Call_ (ld_blt I hg hm boot_enumerate (callWith_type1 (thn (ha.run pos pins s σ H _ I h) fun us s1 hq => ?_) hs rfl))
    obtain ⟨vs, H1, I1, r1, a, xs, rfl, hq, q⟩ := hq
    cases r1 with
    | cons r rr =>
      cases rr
      cases r
      obtain ⟨its, rv, pt, hz⟩ := I1.tuple hq
      obtain ⟨o, ho, _⟩ := id pt
      have la : a < s1.heap.objs.size := Heap.lt_size ho
      refine enum_tup (show s1.heap.IsTuple a its.toArray from pt) fun h1 he hit hk => wpAny_pyIter_enum he ?_
      have I2 : Inv X pins σ H1 { s1 with heap := h1 } := I1.kept (t' := s1.toks) hk
      refine ⟨s1.heap.objs.size + 1, [s1.heap.objs.size + 1, s1.heap.objs.size], _, _, H1, rfl, I2, turn_enT a (s1.heap.objs.size + 1) s1.heap.objs.size, ⟨⟨.none, he⟩, hit, Nat.succ_ne_self _, Nat.ne_of_gt (Nat.lt_succ_of_lt la), Nat.ne_of_lt la⟩, fun b hb => ?_, q⟩
      have lb : s1.heap.objs.size ≤ b := by
        rcases List.mem_cons.mp hb with z | z
        · rw [z]; exact Nat.le_succ _
        · rw [List.mem_singleton] at z; rw [z]; exact Nat.le_refl _
      exact I1.fpOk lb (I1.hok.fresh lb)
def iEnS (K : PySem.W.Frag) (ta : TA) : TI := fun σ H R => iEnum K ta σ H R ∨ iEnT K ta σ H R
theorem pi_enS {X : Cx} {e : Expr} {ta : TA} {p pos tpos : Pos} {elts : List Expr} {kk : Nat} (hg : Gl X "enumerate") (hm : X.mg "enumerate" = none) (ha : PA X [e] ta) (hs : starEach [e] X.env = [(false, eval e X.env)] := by rfl) : PI X (.Tuple elts kk tpos) (.Call (.Name "enumerate" p) [e] [] pos) (iEnS X.K ta) := pi_alt (pi_enum hg hm ha hs) (pi_enT hg hm ha hs)
theorem w_enT {K : PySem.W.Frag} {ta : TA} {σ : L2.St} {H : Hp} {R : It → Hp → Prop} (k : ta σ H fun vs H1 => ∃ a xs, vs = [.ref a] ∧ SqT K H1 a xs ∧ R (IteT K a) H1) : iEnT K ta σ H R := k
end PK

set_option Elab.async false
set_option linter.all false
set_option maxRecDepth 100000
/-! Data in a heap that grows; what isinstance says of it; data compared with itself. -/
namespace PK
open PySem L2
section
variable {K : PySem.W.Frag} {H H' : Hp}
theorem sqL_gr {M : List Addr} (g : Gr M H H') {a : Addr} {xs : List V} (n : a ∉ M) (h : SqL K H a xs) : SqL K H' a xs := by
  rcases h with (h | ⟨o, h⟩) | h
  · exact .inl (.inl (g.keep _ _ n h))
  · exact .inl (.inr ⟨o, g.keep _ _ n h⟩)
  · exact .inr h
theorem sqT_gr (g : Gr [] H H') {a : Addr} {xs : List V} (h : SqT K H a xs) : SqT K H' a xs := by
  rcases h with (h | ⟨o, h⟩) | h
  · exact .inl (.inl (g.k0 h))
  · exact .inl (.inr ⟨o, g.k0 h⟩)
  · exact .inr h
mutual
theorem dp_gr (g : Gr [] H H') : ∀ (d : PyData) {v : V}, Dp K H v d → Dp K H' v d
  | .none, _, h => by cases h; exact .non
  | .bool b, _, h => by cases h; exact .bl b
  | .int i, _, h => by cases h; exact .int i
  | .str x, _, h => by cases h; exact .str x
  | .list ds, _, h => by
    cases h with
    | lst h t => exact .lst (sqL_gr g (by simp) h) (dpAll_gr g ds t)
  | .tuple ds, _, h => by
    cases h with
    | tup h t => exact .tup (sqT_gr g h) (dpAll_gr g ds t)
  | .dict _, _, h => by cases h
theorem dpAll_gr (g : Gr [] H H') : ∀ (ds : List PyData) {vs : List V}, DpAll K H vs ds → DpAll K H' vs ds
  | [], _, h => by cases h; exact .nil
  | d :: ds, _, h => by
    cases h with
    | cons h t => exact .cons (dp_gr g d h) (dpAll_gr g ds t)
end
theorem dpAll_get : ∀ {vs : List V} {ds : List PyData} {i : Nat} {v : V}, DpAll K H vs ds → vs[i]? = some v → ∃ d, ds[i]? = some d ∧ Dp K H v d
  | _, _, _, _, .nil, e => by simp at e
  | _, _, 0, _, .cons h t, e => by simp at e; subst e; exact ⟨_, rfl, h⟩
  | _, _, i + 1, v, .cons h t, e => by
    obtain ⟨d, e1, e2⟩ := dpAll_get (i := i) (v := v) t (by simpa using e)
    exact ⟨d, by simpa using e1, e2⟩
theorem dpAll_len : ∀ {vs : List V} {ds : List PyData}, DpAll K H vs ds → vs.length = ds.length
  | _, _, .nil => rfl
  | _, _, .cons _ t => congrArg (· + 1) (dpAll_len t)
theorem dpAll_append : ∀ {a : List V} {b : List PyData} {c : List V} {d : List PyData}, DpAll K H a b → DpAll K H c d → DpAll K H (a ++ c) (b ++ d)
  | _, _, _, _, .nil, h => h
  | _, _, _, _, .cons h t, h' => .cons h (dpAll_append t h')
/-- what can be compared: not too deep, not too long -/
def Fine : Nat → PyData → Prop
  | _, .none => True
  | _, .bool _ => True
  | _, .int _ => True
  | _, .str x => PyData.strOk x = true
  | n + 1, .list ds => ds.length ≤ 1000 ∧ ∀ d ∈ ds, Fine n d
  | n + 1, .tuple ds => ds.length ≤ 1000 ∧ ∀ d ∈ ds, Fine n d
  | _, _ => False
theorem Fine.sh : ∀ {n : Nat} {d : PyData}, Fine n d → Sh d n
  | _, .none, _ => .none
  | _, .bool b, _ => ⟨by simp [PyData.canLay0], by simp [PyData.depth]⟩
  | _, .int i, _ => .int
  | _, .str x, h => .str (by
    cases ‹Nat› <;> exact h)
  | n + 1, .list ds, h => (ShA.of fun d hd => (h.2 d hd).sh).list
  | n + 1, .tuple ds, h => (ShA.of fun d hd => (h.2 d hd).sh).tuple
  | 0, .list _, h => h.elim
  | 0, .tuple _, h => h.elim
  | 0, .dict _, h => h.elim
  | n + 1, .dict _, h => h.elim
theorem Fine.up : ∀ {n : Nat} {d : PyData}, Fine n d → Fine (n + 1) d
  | 0, .none, _ => trivial
  | 0, .bool b, _ => trivial
  | 0, .int i, _ => trivial
  | 0, .str x, h => h
  | 0, .list _, h => h.elim
  | 0, .tuple _, h => h.elim
  | 0, .dict _, h => h.elim
  | n + 1, .none, _ => trivial
  | n + 1, .bool b, _ => trivial
  | n + 1, .int i, _ => trivial
  | n + 1, .str x, h => h
  | n + 1, .list ds, h => ⟨h.1, fun d hd => (h.2 d hd).up⟩
  | n + 1, .tuple ds, h => ⟨h.1, fun d hd => (h.2 d hd).up⟩
  | n + 1, .dict _, h => h.elim
theorem w_eqSelf {Q : VK} {x y : V} {d : PyData} {n : Nat} (h : Dp K H x d) (h' : Dp K H y d) (f : Fine n d) (l : n ≤ 64) (k : Q (.bl true) H) : rEqD K x y H Q :=
  ⟨d, d, h, h', f.sh.shaped l, f.sh.shaped l, by rw [SeqAt.eqv_refl d f.sh.1]; exact k⟩
theorem w_neSelf {Q : VK} {x y : V} {d : PyData} {n : Nat} (h : Dp K H x d) (h' : Dp K H y d) (f : Fine n d) (l : n ≤ 64) (k : Q (.bl false) H) : rNeD K x y H Q :=
  ⟨d, d, h, h', f.sh.shaped l, f.sh.shaped l, by rw [SeqAt.eqv_refl d f.sh.1]; exact k⟩
/-! ### isinstance of data -/
def tyN : PyData → String
  | .none => "NoneType"
  | .bool _ => "bool"
  | .int _ => "int"
  | .str _ => "str"
  | .list _ => "list"
  | .tuple _ => "tuple"
  | .dict _ => "dict"
theorem dp_ty : ∀ {d : PyData} {v : V}, Dp K H v d → TyX K H v (.type (tyN d))
  | _, _, .non => .base .non
  | _, _, .bl b => .base (.bl b)
  | _, _, .int i => .base (.int i)
  | _, _, .str x => .base (.str x)
  | _, _, .lst h _ => by
    rcases h with (h | ⟨o, h⟩) | ⟨o, its, n, h1, h2, _⟩
    · exact .base (.lst h)
    · exact .base (.frz h)
    · exact .kList h1 h2
  | _, _, .tup h _ => by
    rcases h with (h | ⟨o, h⟩) | ⟨o, its, n, h1, h2, _⟩
    · exact .base (.tup h)
    · exact .fTuple h
    · exact .kTuple h1 h2
/-- isinstance(x, c) -/
theorem w_isi {Q : VK} {x : V} {d : PyData} {c : String} {b : Bool} (h : Dp K H x d) (e : kitB (tyN d) c = some b) (k : Q (.bl b) H) : rIsi K [x, .ty c] H Q := ⟨x, .ty c, _, _, b, rfl, .ty c, dp_ty h, kit_ty e, k⟩
/-- isinstance(x, (c1, c2)), the tuple just made -/
theorem w_isi2 {Q : VK} {x : V} {d : PyData} {t : Addr} {c1 c2 : String} {b1 b2 : Bool} (h : Dp K H x d) (ht : H t = some (.tup [.ty c1, .ty c2])) (e1 : kitB (tyN d) c1 = some b1) (e2 : kitB (tyN d) c2 = some b2) (k : Q (.bl (b1 || b2)) H) : rIsiT K [x, .ref t] H Q :=
  ⟨x, t, _, _, [.type c1, .type c2], b1 || b2, rfl, ht, .cons (.ty c1) (.cons (.ty c2) .nil), dp_ty h, kitAny_cons (kit_ty e1) (fun z => kitAny_cons (kit_ty e2) (fun z2 => by rw [z, z2]; exact kitAny_nil) (fun z2 => by rw [z, z2]; rfl)) (fun z => by rw [z]; rfl), k⟩
/-! ### zip of two tuples -/
theorem walk_zT {a b : Addr} {xs ys : List V} (hl : xs.length = ys.length) : Walk (RZ.ItzT K a b) xs.length (fun H => SqT K H a xs ∧ SqT K H b ys) (YPair (fun i => xs[i]?) (fun i => ys[i]?)) where
  goes := fun i H hi q => ⟨xs, ys, xs[i], ys[i]'(by omega), q.1, q.2, by simp, by simp⟩
  stops := fun H q => ⟨xs, ys, q.1, q.2, .inl (Nat.le_refl _)⟩
  yields := fun i H v H' _ q y => by
    obtain ⟨T, x, z, h1, h2, h3, h4, h5⟩ := y
    exact ⟨T, x, z, h1, h2, h3, h4 xs q.1, h5 ys q.2⟩
theorem w_zipA {σ : L2.St} {ta : TA} {R : It → Hp → Prop} (k : ta σ H fun vs H1 => ∃ a b xs ys, vs = [.ref a, .ref b] ∧ ((SqL K H1 a xs ∧ SqL K H1 b ys ∧ R (Itz K a b) H1) ∨ (SqT K H1 a xs ∧ SqT K H1 b ys ∧ R (RZ.ItzT K a b) H1))) : RZ.iZipA K ta σ H R := k
end
/-- the def at its name, promising nothing -/
theorem Has.bot {P : Program} {w : World} {K : PySem.W.Frag} {mg : Str → Option Value} {base : Heap} {x : Str} {st : Stmt} {ps : List Str} (D : Df K mg x st ps) (k : Nat) : Has P w K mg base k x ps (fun _ _ _ _ => False) :=
  Has.mk' D fun f fd F => ⟨fun _ _ _ _ h => h.elim, fun _ _ _ _ _ _ _ _ _ _ _ _ _ h => h.elim⟩
end PK

set_option Elab.async false
set_option linter.all false
set_option maxRecDepth 100000
/-! Rules that are told what a name stands for. -/
namespace PK
open PySem L2
section
variable {X : Cx} {K : PySem.W.Frag} {pos : Pos}
theorem pg_tupK {es : List Expr} {k : Nat} {t : TGs} {n : Nat} (hc : X.calm = true) (h : PGs X es t) (hK : X.K = K := by rfl)
    (hn : (assignEach es X.env).length = n := by rfl) (hst : (assignEach es X.env).findIdx? (·.1) = none := by rfl) : PG X (.Tuple es k pos) (gTup K n t) := by
  subst hK; exact pg_tup hc h hn hst
end
/-! ### rows in lists or in tuples -/
section
variable {K : PySem.W.Frag} {H H' : Hp}
def Sq (K : PySem.W.Frag) (H : Hp) (a : Addr) (xs : List V) : Prop := SqL K H a xs ∨ SqT K H a xs
theorem Sq.gr {a : Addr} {xs : List V} (h : Sq K H a xs) (g : Gr [] H H') : Sq K H' a xs := h.imp (sqL_gr g (by simp)) (sqT_gr g)
/-- an event, its parts in a list or in a tuple -/
def RowQ (K : PySem.W.Frag) (H : Hp) (v : V) (e : Ev) : Prop := ∃ a, v = .ref a ∧ Sq K H a e.vs
theorem RowQ.gr {v : V} {e : Ev} (h : RowQ K H v e) (g : Gr [] H H') : RowQ K H' v e := by
  obtain ⟨a, r, q⟩ := h
  exact ⟨a, r, q.gr g⟩
def TabQ (K : PySem.W.Frag) (H : Hp) (v : V) (es : List Ev) : Prop := ∃ a xs, v = .ref a ∧ Sq K H a xs ∧ Paired (RowQ K H) xs es
theorem TabQ.gr {v : V} {es : List Ev} (h : TabQ K H v es) (g : Gr [] H H') : TabQ K H' v es := by
  obtain ⟨a, xs, r, q, p⟩ := h
  exact ⟨a, xs, r, q.gr g, Paired.mono (fun _ _ z => z.gr g) p⟩
theorem TabQ.of_tt {v : V} {es : List Ev} (h : IsTT H v es) : TabQ K H v es := by
  obtain ⟨a, xs, r, q, p⟩ := h
  refine ⟨a, xs, r, .inr (SqT.of q), Paired.mono (fun _ _ z => ?_) p⟩
  obtain ⟨c, e, hc⟩ := z
  exact ⟨c, e, .inr (SqT.of hc)⟩
theorem w_ixQ {Q : VK} {v : V} {p : Addr} {xs : List V} {i : Int} (h : Sq K H p xs) (hx : atI xs i = some v) (k : Q v H) : rIx K (.ref p) (.int i) H Q :=
  h.elim (fun z => .inl ⟨p, xs, i, v, rfl, rfl, z, hx, k⟩) (fun z => .inr (.inl ⟨p, xs, i, v, rfl, rfl, z, hx, k⟩))
theorem w_enSv {B : Hp} {σ : L2.St} {R : It → Hp → Prop} {i : Nat} {a : Addr} {xs : List V} (h : σ[i]? = some (some (.ref a))) (hq : Sq K B a xs) (g : Gr [] B H)
    (k : ∀ (J : It) (G : Hp → Prop), (∀ H', Gr [] B H' → G H') → Walk J xs.length G (YPair (fun i => some (.int (i : Nat))) (fun i => xs[i]?)) → R J H) : iEnS K (tCons (tVar i) tNil) σ H R := by
  rcases hq with z | z
  · exact .inl (WK.w_cons (WK.w_var h (WK.w_nil ⟨a, xs, rfl, sqL_gr g (by simp) z, k _ _ (fun _ g => sqL_gr g (by simp) z) walk_enum⟩)))
  · exact .inr (WK.w_cons (WK.w_var h (WK.w_nil ⟨a, xs, rfl, sqT_gr g z, k _ _ (fun _ g => sqT_gr g z) walk_enT⟩)))
theorem w_seqv {B : Hp} {σ : L2.St} {R : It → Hp → Prop} {i : Nat} {a : Addr} {xs : List V} (h : σ[i]? = some (some (.ref a))) (hq : Sq K B a xs) (g : Gr [] B H)
    (k : ∀ (J : It) (G : Hp → Prop), (∀ H', Gr [] B H' → G H') → Walk J xs.length G (YAt xs) → R J H) : iSeq K (tVar i) σ H R := by
  rcases hq with z | z
  · exact .inl (w_itL (WK.w_var h ⟨a, rfl, ⟨_, sqL_gr g (by simp) z⟩, k _ _ (fun _ g => sqL_gr g (by simp) z) walk_list⟩))
  · exact .inr (w_itT (WK.w_var h ⟨a, rfl, ⟨_, sqT_gr g z⟩, k _ _ (fun _ g => sqT_gr g z) walk_tup⟩))
end
end PK

set_option Elab.async false
set_option linter.all false
set_option maxRecDepth 100000
/-! A def of one parameter that is called by its parameter's name, too. -/
namespace PK
open PySem L2
/-- the one value that is told by a name -/
def kv1 {α : Type} : List α → List α → List α
  | [], [u] => [u]
  | _, _ => []
/-- a def of one parameter: by place and by name -/
structure Df1 (K : PySem.W.Frag) (mg : Str → Option Value) (x : Str) (st : Stmt) (ps : List Str) : Prop where
  ex : ∃ f fd, Fun K x x st f fd ∧ mg x = some (.ref f) ∧ Binds K fd ps [] ∧ KBinds K fd ps ps kv1 kv1
structure Has1 (P : Program) (w : World) (K : PySem.W.Frag) (mg : Str → Option Value) (base : Heap) (k : Nat) (x : Str) (ps : List Str) (sp : Sp) : Prop where
  ex : ∃ f fd, FnOk P w K mg base CX0 k f fd ps sp ∧ mg x = some (.ref f) ∧ PySem.W.keepIn K (.ref f) = true ∧ Binds K fd ps [] ∧ KBinds K fd ps ps kv1 kv1
section
variable {P : Program} {w : World} {K : PySem.W.Frag} {mg : Str → Option Value} {base : Heap} {k : Nat} {x : Str} {st : Stmt} {ps : List Str} {sp : Sp}
theorem Df1.df (D : Df1 K mg x st ps) : Df K mg x st ps := by
  obtain ⟨f, fd, F, m, b, _⟩ := D.ex
  exact ⟨f, fd, F, m, b⟩
theorem Has1.mk' (D : Df1 K mg x st ps) (h : ∀ f fd, Fun K x x st f fd → FnOk P w K mg base CX0 k f fd ps sp) : Has1 P w K mg base k x ps sp := by
  obtain ⟨f, fd, F, m, b, kb⟩ := D.ex
  exact ⟨f, fd, h f fd F, m, F.kp, b, kb⟩
theorem Has1.has (h : Has1 P w K mg base k x ps sp) : Has P w K mg base k x ps sp := by
  obtain ⟨f, fd, F, m, kp, b, _⟩ := h.ex
  exact ⟨f, fd, F, m, kp, b⟩
theorem kv1_rel {vs : List V} {us : List Value} {zs : List V} {ws : List Value} (h : Vals vs us) (h' : Vals zs ws) : Vals (kv1 vs zs) (kv1 us ws) := by
  cases h with
  | nil =>
    cases h' with
    | nil => exact .nil
    | cons r t =>
      cases t with
      | nil => exact .cons r .nil
      | cons _ _ => exact .nil
  | cons r t => exact .nil
end
def tKw (sp : Sp) (t : TA) : TE := fun σ H Q => t σ H fun zs H2 => sp (kv1 [] zs) H2 Q E0
section
variable {X : Cx} {k : Nat} {x : Str} {ps : List Str} {sp : Sp} {kws : List Keyword} {pos p : Pos} {t : TA}
/-- x(name=e) -/
theorem pe_kwH (D : Has1 X.prog X.w X.K X.mg X.base k x ps sp) (room : Room k X.A) (hg : Gl X x) (kw : L2.PK X kws t) (named : (backToKw pos (keywordEach kws X.env)).all (·.1.isSome) = true := by rfl)
    (names : (backToKw pos (keywordEach kws X.env)).filterMap (·.1) = ps := by rfl) (hdb : (x == ("__debug__" : Str)) = false := by decide)
    (plain : ((backTo pos (starEach [] X.env)).any (·.1) || (backToKw pos (keywordEach kws X.env)).any (·.1.isNone)) = false := by rfl) : PE X (.Call (.Name x p) [] kws pos) (tKw sp t) := by
  obtain ⟨f, fd, F, m, kp, _, kb⟩ := D.ex
  refine ⟨fun pins s σ H Q I want => wpAny_Call_Name_kw (ld_glob I hg m ?_ hdb)⟩
  refine PySem.W.callWith_KW0 (h₀ := X.base) I.ok.mod.kin kp named ?_ plain
  rw [names]
  exact thn (kw.run pos pins s σ H _ I want) fun ws s1 ⟨zs, H1, I1, rel, go⟩ => ⟨I1.kIn, run_fnk (us := []) (vs := []) F room kb pass0 I1 .nil rel go⟩
end
theorem WK.w_kw {sp : Sp} {t : TA} {σ : L2.St} {H : Hp} {Q : VK} (k : t σ H fun zs H2 => sp (kv1 [] zs) H2 Q E0) : tKw sp t σ H Q := k
end PK

set_option Elab.async false
set_option linter.all false
set_option maxRecDepth 100000
/-! Sets of whole numbers made out of a list. -/
namespace PK
open PySem PySem.Spec PyProof.Rows L2
section
variable {P : Program} {w : World} {A : Around} {E : Value → Shared → Prop} {s : Shared}
/-- a set without members, just made -/
abbrev bare (w : World) : Obj := { cls := .type "set", dict := none, data := .set #[] 0 (.fresh 0 0 (!w.params.followText "set-order")) }
/-- a built-in type is called, its __init__ asked after its arguments by itself -/
theorem type_makes {T newId initId : String} {B : Builtin} {args : List Value} {Q Q₁ : Value → Shared → Prop} (ft : TypeCalled T newId initId) (fine : checkTypeCall T ⟨args, []⟩ = pure ()) (ini : entryFor table initId = some B)
    (born : codeAny (model P w) A.in1 (.call (.builtin newId) ⟨.type T :: args, []⟩) (wants Q₁ E) s)
    (filled : ∀ o u, Q₁ o u → u.TypeIs o T ∧ codeAny (model P w) A.in1 (.call (.builtin initId) ⟨o :: args, []⟩) (wants (fun r u' => r = .none ∧ Q o u') E) u) :
    wpAny (model P w) A (call (.type T) args) Q E s := by
  have ⟨⟨c, tl, hm⟩, x1, x2, x3, x4⟩ := And.intro ft.mro (And.intro ft.made (And.intro ft.sub (And.intro ft.notType ft.canCreate)))
  refine wpAny_call (codeAny_of_tree (show wpAny _ _ (callAny (.type T) _) _ _ _ from wpAny_pure ⟨Code.quiet_builtin _ (by decide +kernel), codeAny_builtin F.entry_type_call ?_⟩))
  rw [Around.under_plain (weight_type_call_type T args []) rfl]
  repeat (any_goals (first | assumption | wp_step))
  refine codeAny_mono born fun r u h => ?_
  match r, h with
  | .ok (.ret o), h =>
    have ⟨ty, last⟩ := filled _ _ h
    have y1 := ft.init.lookup
    have y2 := ft.init.bind o
    repeat (any_goals (first | assumption | wp_step))
    refine codeAny_mono last fun r2 u2 h2 => ?_
    match r2, h2 with
    | .ok (.ret q), ⟨e, h3⟩ =>
      subst e
      repeat (any_goals (first | assumption | wp_step))
    | .error e, h3 => exact h3
  | .error e, h => exact h
/-- set(xs) of a list of whole numbers -/
theorem set_of_list {a : Addr} {us : Array Value} (ns : List Int) {Q : Value → Shared → Prop} (quiet : A.handled = none) (at_ : s.heap.IsList a us) (whole : IntsAre us.toList ns) (few : ns.length + 1 < scanBound)
    (go : ∀ (h' : Heap) (tk c : Nat), SetR w h' s.heap.objs.size (fun j => decide (j ∈ ns)) c → (∀ b o, s.heap.get? b = some o → h'.get? b = some o) → Q (.ref s.heap.objs.size) { s with heap := h', toks := tk }) :
    wpAny (model P w) A (call (.type "set") [.ref a]) Q E s := by
  refine type_makes (Q₁ := fun o u => o = .ref s.heap.objs.size ∧ u = { s with heap := s.heap.push (bare w) }) F.called_set (F.typeCall_set_1 _) F.entry_set_init (code_set_led1 _ ⟨rfl, rfl⟩) ?_
  rintro _ _ ⟨rfl, rfl⟩
  have here : (s.heap.push (bare w)).get? s.heap.objs.size = some (bare w) := Heap.get?_push_size _ rfl
  refine ⟨⟨_, here, rfl⟩, codeAny_call_builtin F.called_set.init.plain F.entry_set_init (check_set_init_1 ⟨_, here, rfl⟩ ?_)⟩
  · obtain ⟨o, ho, hc, nl, hd⟩ := at_
    obtain ⟨oc, od, odat, osl⟩ := o
    dsimp only at hc hd
    subst hc hd
    have ho2 : (s.heap.push (bare w)).get? a = some { cls := .type "list", dict := od, data := .seq us nl, slots := osl } := Heap.get?_push_of_some _ ho
    have list2 : (s.heap.push (bare w)).IsList a us := ⟨_, ho2, rfl, nl, rfl⟩
    have n1 := F.sub_list_set
    have n2 := F.sub_list_frozenset
    have n3 : (Value.type "list" == Value.type "dict") = false := by decide
    unfold Builtin.«set.__init__» noKeywords Builtin.Frozenset.updateFrom
    generalize hp : pyIter = iter_
    wp_walk
    subst hp
    refine wpAny_pyIter_list list2 (wpAny_bind (wpAny_runValue ?_))
    have below : a < s.heap.objs.size := Heap.lt_size ho
    have grown : (s.heap.push (bare w)).objs.size = s.heap.objs.size + 1 := Heap.size_push ..
    have long : us.size = ns.length := by
      have z := IntsAre.length whole
      rwa [Array.length_toList] at z
    have apart : a ≠ (s.heap.push (bare w)).objs.size := by
      rw [grown]
      exact Nat.ne_of_lt (Nat.lt_succ_of_lt below)
    refine set_update_ints ((Walks.list (by simp [quiet]) _ a apart us).toS) s.heap.objs.size ?out ns long few ?vals us.size 0 _ rfl (Nat.zero_le _) ⟨⟨_, Heap.get?_push_size _ rfl, rfl, rfl⟩, list2.push _⟩ ⟨0, Nat.le_refl 0, setR_new_at (Heap.get?_push_of_some _ here)⟩ ?end_
    case out =>
      rw [grown]
      simp only [List.mem_cons, List.not_mem_nil, or_false, not_or]
      exact ⟨Nat.ne_of_lt (Nat.lt_succ_self _), Nat.ne_of_gt below⟩
    case vals =>
      intro i v hv
      have hi : i < ns.length := by
        rw [← long]
        exact (Array.getElem?_eq_some_iff.mp hv).1
      obtain ⟨t, e⟩ := IntsAre.int_at whole i v (by rw [Array.getElem?_toList]; exact hv)
      exact ⟨ns[i], t, List.getElem?_eq_getElem hi, by rw [e, List.getD_eq_getElem?_getD, List.getElem?_eq_getElem hi]; rfl⟩
    case end_ =>
      intro s2 c moved _ made
      have same : s2 = { s with heap := s2.heap, toks := s2.toks } := by
        have g1 := moved.gens
        have g2 := moved.drawn
        have g3 := moved.os
        cases s2
        cases s
        cases g1
        cases g2
        cases g3
        rfl
      refine wpAny_pure ?_
      show wpAny _ _ (ret Value.none) _ _ _
      refine wpAny_pure ⟨rfl, ?_⟩
      rw [same]
      refine go _ _ c made fun b o e => ?_
      have hb := Heap.lt_size e
      refine moved.heap b o ?_ (Heap.get?_push_of_some _ (Heap.get?_push_of_some _ e))
      rw [grown]
      simp only [List.mem_cons, List.not_mem_nil, or_false, not_or]
      exact ⟨Nat.ne_of_lt hb, Nat.ne_of_lt (Nat.lt_succ_of_lt hb)⟩
end

/-- what a set of n members has, as a row without doubles -/
def Mem (S : Int → Bool) (n : Nat) : Prop := ∃ ms : List Int, ms.Nodup ∧ ms.length = n ∧ ∀ k, S k = true ↔ k ∈ ms
theorem setR_mem {w : World} {h : Heap} {a : Addr} {S : Int → Bool} {n : Nat} (R : SetR w h a S n) : Mem S n := by
  obtain ⟨o, es, ep, t, _, _, _, _, nd, hm, _, _, hn, _⟩ := R
  exact ⟨_, nd, by rw [List.length_map, Array.length_toList]; exact hn, hm⟩
def rSetI (K : PySem.W.Frag) (w : World) : List V → Hp → VK → Prop := fun vs H Q => ∃ (a : Addr) (ns : List Int), vs = [V.ref a] ∧ SqL K H a (ns.map V.int) ∧ ns.length ≤ 1000 ∧
  ∀ (p : Addr) (S : Int → Bool) (n : Nat), Mem S n → (∀ k, S k = true ↔ k ∈ ns) → H p = none → Q (.ref p) (upd H p (SetO w p S n))
theorem cr_setI {X : Cx} {K : PySem.W.Frag} (hc : X.calm = true) (hK : X.K = K := by rfl) : CallR X (.type "set") (rSetI K X.w) := by
  subst hK
  intro pins s σ H vs us Q I r h
  obtain ⟨a, ns, rfl, hs, hl, q⟩ := h
  rw [Vals.ref1 r]
  obtain ⟨its, rv, at_, _⟩ := I.list hs
  refine set_of_list ns (I.ok.hd hc) at_.isList rv.ints (by unfold scanBound; omega) fun h' tk c R k => ?_
  exact ⟨.ref _, upd H s.heap.objs.size (SetO X.w s.heap.objs.size _ c), I.laid (t' := tk) k (Nat.le_refl _) (setO_new R), rfl, q _ _ c (setR_mem R) (fun k => by simp) (I.hok.fresh (Nat.le_refl _))⟩
end PK

set_option Elab.async false
set_option linter.all false
set_option maxRecDepth 100000
/-! A set comprehension, whatever its set holds. -/
namespace PK
open PySem PySem.Spec PyProof.Rows L2
section
variable {Y : Cx} {tg iter elt : Expr} {ifs : List Expr} {scope : Scope} {pos : Pos} {J : It} {fp : List Addr} {it D : Addr} {tn : Nat → Heap → Prop} {g : TG} {tt : TT} {te : TE} {σ0 : L2.St}
/-- set.add, by what it does to the heap -/
def Adds (Y : Cx) (D : Addr) (Ad : V → Hp → Hp → Prop) : Prop := ∀ (pins : List (Addr × Obj)) (σ : L2.St) (H H' : Hp) (s : Shared) (v : V) (u : Value) (E : Value → Shared → Prop) (Q : Value → Shared → Prop), Inv Y pins σ H s → RelV v u → Ad v H H' →
  (∀ s', Inv Y pins σ H' s' → Q .none s') → wpAny (model Y.prog Y.w) Y.A (call (.builtin "set.add") [.ref D, u]) Q E s
/-- one turn of the block, or its end -/
def Turns (J : It) (g : TG) (tt : TT) (te : TE) (vs : List Nat) (σ0 : L2.St) (Ad : V → Hp → Hp → Prop) (W : Nat → Nat → Hp → Prop) (End : Hp → Prop) : Prop := ∀ i m H, W i m H →
  (J.stop i H ∧ End H) ∨ (J.go i H ∧ ∃ N : Hp → Prop, (∀ H', N H' → ∃ m', m' < m ∧ W (i + 1) m' H') ∧
    ∀ x H', J.yld i H x H' → g x σ0 H' fun σ2 H2 => wipe σ2 vs = σ0 ∧ tt σ2 H2 fun b H3 => if b = true then te σ2 H3 fun y H4 => ∃ H5, Ad y H4 H5 ∧ N H5 else N H3)
theorem gather (calm : Y.calm = true) (dry : Y.xe = fun _ _ => False) (T : Turn Y.prog Y.w Y.K tg J fp it tn) (rg : PG Y tg g) (rt : PTs Y ifs tt) (re : PE Y elt te) {Ad : V → Hp → Hp → Prop} (adds : Adds Y D Ad)
    (alive : ∀ H σ s, Inv Y [] σ H s → (∀ b ∈ fp, H b = none) → ∀ b ∈ fp, FpOk Y [] H b) {vs : List Nat} {W : Nat → Nat → Hp → Prop} {End : Hp → Prop} {R : Result → Shared → Prop} (turns : Turns J g tt te vs σ0 Ad W End)
    (ends : ∀ H s, Inv Y [] σ0 H s → End H → R (.ok .next) s) {m : Nat} {s : Shared} {H : Hp} (I : Inv Y [] σ0 H s) (t0 : tn 0 s.heap) (free : ∀ b ∈ fp, H b = none) (w0 : W 0 m H) :
    codeAny (model Y.prog Y.w) Y.A (.compLoop (.SetComp elt [⟨tg, iter, ifs, 0⟩] scope pos) 0 (.ref it) (.ref D) Y.env) R s := by
  refine PpSet.compLoopS_any (fun k u => ∃ j G, W j k G ∧ Inv Y [] σ0 G u ∧ tn j u.heap ∧ ∀ b ∈ fp, G b = none) (fun k u ⟨j, G, w, IG, tj, fr⟩ => ?_) m ⟨0, H, w0, I, t0, free⟩
  have up := alive G _ u IG fr
  rcases turns j k G w with ⟨over, fin⟩ | ⟨more, N, next, go⟩
  · exact thnF (T.done Y rfl rfl rfl calm j [] u σ0 G _ IG up tj over) fun r u1 ⟨e, I1⟩ => by
      subst e
      exact ends G u1 I1 fin
  · refine thnF (T.item Y rfl rfl rfl calm j [] u σ0 G _ IG up tj more) fun r u1 ⟨v, e, h1⟩ => ?_
    subst e
    refine thnF h1 fun _ u2 ⟨x, G2, I2, rx, yx, t2, fr2⟩ => ?_
    have held := I2.pinned (alive G2 _ u2 I2 fr2) (T.obj _ _ t2)
    -- where a turn comes out
    have back : ∀ (σ2 : L2.St) (u' : Shared) (G' : Hp), wipe σ2 vs = σ0 → Inv Y ([] ++ pinsAt fp u2.heap) σ2 G' u' → N G' → ∃ k', k' < k ∧ ∃ j' G'', W j' k' G'' ∧ Inv Y [] σ0 G'' u' ∧ tn j' u'.heap ∧ ∀ b ∈ fp, G'' b = none := fun σ2 u' G' wp I' n' => by
      obtain ⟨k', lt, w'⟩ := next G' n'
      have stay : ∀ b ∈ fp, ∀ o, u2.heap.get? b = some o → u'.heap.get? b = some o ∧ G' b = none := fun b hb o e => by
        have z := I'.pin (b, o) (List.mem_append_right _ (List.mem_append_right _ (mem_pinsAt hb e)))
        exact ⟨z.1, z.2.1⟩
      refine ⟨k', lt, j + 1, G', w', ?_, T.keep _ _ _ t2 fun b hb o e => (stay b hb o e).1, fun b hb => ?_⟩
      · refine (Inv.unpinned (pins := []) I').weak (by rw [← wp, wipe_length]) fun a y e => ?_
        rw [← wp] at e
        exact (wipe_some e).1
      · obtain ⟨o, e, _⟩ := T.obj _ _ t2 b hb
        exact (stay b hb o e).2
    have r1 := rg.run _ u2 σ0 G2 x v _ held rx (go x G2 yx)
    rw [dry] at r1
    refine thnF r1 fun _ u3 ⟨σ3, G3, I3, wp, h3⟩ => ?_
    have r2 := rt.run _ u3 σ3 G3 _ I3 h3
    rw [dry] at r2
    refine thnF r2 fun b u4 ⟨G4, I4, h4⟩ => ?_
    cases b with
    | false => exact back σ3 u4 G4 wp I4 (by simpa using h4)
    | true =>
      have r3 := re.run _ u4 σ3 G4 _ I4 (by simpa using h4)
      rw [dry] at r3
      exact thnF r3 fun z u5 ⟨y, G5, I5, ry, G6, ad, n6⟩ => adds _ σ3 G5 G6 u5 y z _ _ I5 ry ad fun u6 I6 => back σ3 u6 G6 wp I6 n6
end
/-- a set comprehension: O, the set as it comes; Ad, what a member does to it -/
def tColl (O : Addr → HO) (Ad : Addr → V → Hp → Hp → Prop) (wi : TI) (g : TG) (tt : TT) (te : TE) (vs : List Nat) : TE := fun σ H Q => wi σ H fun J H1 => ∀ D, H1 D = none →
  ∃ W : Nat → Nat → Hp → Prop, (∃ m, W 0 m (upd H1 D (O D))) ∧ Turns J g tt te vs (wipe σ vs) (Ad D) W (Q (.ref D))
section
variable {X : Cx} {tg iter elt : Expr} {ifs : List Expr} {scope : Scope} {pos : Pos} {g : TG} {tt : TT} {te : TE} {wi : TI} {own : List (PySem.Str × Nat)} {O : Addr → HO} {Ad : Addr → V → Hp → Hp → Prop}
theorem pe_coll (calm : X.calm = true) (nodup : X.N.Nodup) (walks : PI X tg iter wi) (ok : BlkOk X.N X.env.scope scope own)
    (meets : ∀ u G C cl fp, PG (X.blk u G scope (compEnvC scope cl C X.env) fp) tg g) (tests : ∀ u G C cl fp, PTs (X.blk u G scope (compEnvC scope cl C X.env) fp) ifs tt) (elts : ∀ u G C cl fp, PE (X.blk u G scope (compEnvC scope cl C X.env) fp) elt te)
    (comes : ∀ (h : Heap) (G : Hp), ObjOk X.prog X.w G (h.push (bare X.w)) h.objs.size (O h.objs.size)) (adds : ∀ (Y : Cx) D, Y.prog = X.prog → Y.w = X.w → Adds Y D (Ad D))
    (folds : ∀ x, foldedSetIterable iter X.env x = pure x := by intro _; rfl) : PE X (.SetComp elt [⟨tg, iter, ifs, 0⟩] scope pos) (tColl O Ad wi g tt te (own.map (·.2))) := by
  refine ⟨fun pins s σ H Q I want => ?_⟩
  rw [PpSet.eval_SetComp]
  have known : ∀ y ∈ scope.names, y.2 = .free → ∃ c, X.env.cells.lookup y.1 = some c := fun y hy e =>
    (ok.free y hy e).elim (fun z => I.ok.has _ (.inl z)) (fun z => I.ok.has _ (.inr z))
  refine wpAny_comprehension_free (use := none) rfl folds (closure_ok known) ok.kind (fun y hy e => (ok.uniq y hy).trans (by rw [e])) (thn (walks.run pins s σ H _ I want) fun v s1 h1 => thn h1 fun iv s2 h2 => ?_)
  obtain ⟨it, fp, tn, J, H2, e, I2, T, t2, f2, q⟩ := h2
  subst e
  refine PpSet.newSet_ok (newEnv_comp ?_)
  obtain ⟨W, ⟨m, w0⟩, turns⟩ := q s2.heap.objs.size (I2.hok.fresh (Nat.le_refl _))
  have I3 : Inv X pins σ (upd H2 s2.heap.objs.size (O s2.heap.objs.size)) { s2 with heap := s2.heap.push (bare X.w) } :=
    I2.laid (t' := s2.toks) (fun b o e => Heap.get?_push_of_some _ e) (Nat.le_refl _) (comes _ _)
  generalize hD : s2.heap.objs.size = D at *
  generalize hG : upd H2 D (O D) = G at *
  have fp3 : ∀ b ∈ fp, FpOk X pins G b ∧ b < (s2.heap.push (bare X.w)).objs.size := fun b hb => by
    obtain ⟨o, e, _⟩ := T.obj _ _ t2 b hb
    have lt := Heap.lt_size e
    refine ⟨⟨?_, (f2 b hb).2⟩, Nat.lt_of_lt_of_le lt (by rw [Heap.size_push]; exact Nat.le_succ _)⟩
    rw [← hG, upd_ne (by rw [← hD]; exact Nat.ne_of_lt lt)]
    exact (f2 b hb).1
  have t3 : tn 0 (s2.heap.push (bare X.w)) := T.keep _ _ _ t2 fun b _ o e => Heap.get?_push_of_some _ e
  generalize hu : ({ s2 with heap := s2.heap.push (bare X.w) } : Shared) = u at *
  have hu' : s2.heap.push (bare X.w) = u.heap := by rw [← hu]
  rw [hu'] at fp3 t3
  have I4 := block_start I3 ok nodup fp3
  have t4 : tn 0 (pushCells (u.heap.push { cls := .type "dict", data := .dict #[] }) scope.names) := T.keep _ _ _ t3 fun b _ o e => pushCells_keeps _ _ _ _ (Heap.get?_push_of_some _ e)
  have rg := meets u G u.heap.objs.size (cellsFrom (u.heap.objs.size + 1) scope.names (cloFrom X.env.cells scope.names [])) fp
  have rt := tests u G u.heap.objs.size (cellsFrom (u.heap.objs.size + 1) scope.names (cloFrom X.env.cells scope.names [])) fp
  have re := elts u G u.heap.objs.size (cellsFrom (u.heap.objs.size + 1) scope.names (cloFrom X.env.cells scope.names [])) fp
  have runs := gather (Y := X.blk u G scope (compEnvC scope (cellsFrom (u.heap.objs.size + 1) scope.names (cloFrom X.env.cells scope.names [])) u.heap.objs.size X.env) fp) (elt := elt) (iter := iter) (scope := scope) (pos := pos) (D := D) (R := compPost (model X.prog X.w) X.A X.xe none (EP X pins σ Q) (.ref D) u.heap.objs.size) calm rfl T rg rt re (adds _ D rfl rfl)
    (fun K σ' u' I' fr b hb => ⟨fr b hb, (I'.ok.exf b hb).1, I'.ok.exfs b hb, .inl hb, fun x c e => (I'.ok.exf b hb).2 x c e, fun p hp => by simp [Cx.blk] at hp⟩) turns
    (fun K u' I' fin => by
      have gone : K u.heap.objs.size = none := I'.free
      obtain ⟨n, ns, _⟩ := I'.loc
      obtain ⟨c0, c1, _, c3, c4, c5⟩ := I3.fpOk (Nat.le_refl _) gone
      have I5 : Inv X pins σ K u' := I3.call' (ch := fp) I'.os I'.base I'.hok I'.bare fun b hb => by
        obtain ⟨⟨_, a1, _, a3, a4, a5⟩, _⟩ := fp3 b hb
        exact ⟨a3, a1, a4, a5⟩
      exact ⟨n, ns, fun h2 sb => ⟨.ref D, K, I5.turned (t' := u'.toks) (fun b o hb e => (sb.2 b hb).trans e) c0 c1 c3 c4 c5, rfl, fin⟩⟩) I4 t4 (fun b hb => (fp3 b hb).1.1) w0
  exact PpSet.codeAny_compStart_set runs (T.self X.A 0 _ _ _ t4 runs)
end
/-! ### of whole numbers -/
def OI (w : World) (D : Addr) : HO := SetO w D (fun _ => false) 0
def AdI (w : World) (D : Addr) (v : V) (H H' : Hp) : Prop := ∃ (c : Int) (S : Int → Bool) (n : Nat), v = .int c ∧ H D = some (SetO w D S n) ∧ n + 1 < scanBound ∧ H' = upd H D (SetO w D (fun j => S j || decide (j = c)) (if S c = true then n else n + 1))
theorem addsI {w : World} (Y : Cx) (D : Addr) (e : Y.w = w) : Adds Y D (AdI w D) := by
  subst e
  intro pins σ H H' s v u E Q I rv ⟨c, S, n, ev, at_, room, eH⟩ k
  subst ev eH
  obtain ⟨tk, rfl⟩ := rv
  refine setR_add (setO_get I at_) room fun h2 sb made => ?_
  have ⟨o, _, _, _, ho, _⟩ := made
  exact k _ (I.write (e := D) (t' := s.toks + 1) (by rw [at_]; trivial) (.inl rfl) (fun b x hb hx => (sb.2 b hb).trans hx) ⟨o, ho⟩ (setO_new made))
section
variable {X : Cx} {tg iter elt : Expr} {ifs : List Expr} {scope : Scope} {pos : Pos} {g : TG} {tt : TT} {te : TE} {wi : TI} {own : List (PySem.Str × Nat)}
theorem pe_collI (calm : X.calm = true) (nodup : X.N.Nodup) (walks : PI X tg iter wi) (ok : BlkOk X.N X.env.scope scope own)
    (meets : ∀ u G C cl fp, PG (X.blk u G scope (compEnvC scope cl C X.env) fp) tg g) (tests : ∀ u G C cl fp, PTs (X.blk u G scope (compEnvC scope cl C X.env) fp) ifs tt) (elts : ∀ u G C cl fp, PE (X.blk u G scope (compEnvC scope cl C X.env) fp) elt te)
    (folds : ∀ x, foldedSetIterable iter X.env x = pure x := by intro _; rfl) : PE X (.SetComp elt [⟨tg, iter, ifs, 0⟩] scope pos) (tColl (OI X.w) (AdI X.w) wi g tt te (own.map (·.2))) :=
  pe_coll calm nodup walks ok meets tests elts (fun h G => setO_new (setR_fresh X.w)) (fun Y D _ e => addsI Y D e) folds
end
/-! ### how a set comprehension is met -/
def Co (O : Addr → HO) (Ad : Addr → V → Hp → Hp → Prop) (J : It) (g : TG) (tt : TT) (te : TE) (vs : List Nat) (σ : L2.St) (H1 : Hp) (Q : VK) : Prop := ∀ D, H1 D = none →
  ∃ W : Nat → Nat → Hp → Prop, (∃ m, W 0 m (upd H1 D (O D))) ∧ Turns J g tt te vs (wipe σ vs) (Ad D) W (Q (.ref D))
section
variable {O : Addr → HO} {Ad : Addr → V → Hp → Hp → Prop} {J : It} {n : Nat} {G : Hp → Prop} {Y : Nat → Hp → V → Hp → Prop} {g : TG} {tt : TT} {te : TE} {vs : List Nat} {σ : L2.St} {H : Hp} {Q : VK} {wi : TI}
theorem w_coll (k : wi σ H fun J H1 => Co O Ad J g tt te vs σ H1 Q) : tColl O Ad wi g tt te vs σ H Q := k
theorem co_go (wk : Walk J n G Y) (R : Addr → Nat → Hp → Prop) (h0 : ∀ D, H D = none → R D 0 (upd H D (O D))) (hG : ∀ D i H', i ≤ n → R D i H' → G H')
    (hs : ∀ D i x H' H2, H D = none → i < n → R D i H' → Y i H' x H2 → g x (wipe σ vs) H2 fun σ2 H3 => wipe σ2 vs = wipe σ vs ∧ tt σ2 H3 fun b H4 => if b = true then te σ2 H4 fun y H5 => ∃ H6, Ad D y H5 H6 ∧ R D (i + 1) H6 else R D (i + 1) H4)
    (hd : ∀ D H', H D = none → R D n H' → Q (.ref D) H') : Co O Ad J g tt te vs σ H Q := fun D nD =>
  ⟨fun i m H' => m = n - i ∧ i ≤ n ∧ R D i H', ⟨n, rfl, Nat.zero_le _, h0 D nD⟩, fun i m H' ⟨e, l, r⟩ => by
    by_cases lt : i < n
    · exact .inr ⟨wk.goes i H' lt (hG D i H' l r), R D (i + 1), fun H2 r2 => ⟨n - (i + 1), by omega, rfl, lt, r2⟩, fun x H2 y => hs D i x H' H2 nD lt r (wk.yields i H' x H2 lt (hG D i H' l r) y)⟩
    · obtain rfl : i = n := by omega
      exact .inl ⟨wk.stops H' (hG D i H' l r), hd D H' nD r⟩⟩
end
end PK

set_option Elab.async false
set_option linter.all false
set_option maxRecDepth 100000
/-! match on a tuple: a word first, then names. -/
namespace PK
open PySem L2 PyProof.Rows
/-- where the rest of a pattern's items go: nowhere, or to the name at this place -/
def gCaps : List (Option Nat) → List V → L2.St → L2.St
  | none :: g, _ :: vs, σ => gCaps g vs σ
  | some i :: g, v :: vs, σ => gCaps g vs (σ.set i (some v))
  | _, _, σ => σ
inductive Caps (X : Cx) : List Pattern → List (Option Nat) → Prop where
  | nil : Caps X [] []
  | skip {ps : List Pattern} {g : List (Option Nat)} {pos : Pos} : Caps X ps g → Caps X (.MatchAs none none pos :: ps) (none :: g)
  | name {ps : List Pattern} {g : List (Option Nat)} {pos : Pos} {x : Str} {i : Nat} : X.N[i]? = some x → X.env.scope.names.lookup x = some .local → Caps X ps g → Caps X (.MatchAs none (some x) pos :: ps) (some i :: g)
theorem Caps.length {X : Cx} : ∀ {ps : List Pattern} {g : List (Option Nat)}, Caps X ps g → g.length = ps.length
  | _, _, .nil => rfl
  | _, _, .skip c => by rw [List.length_cons, List.length_cons, c.length]
  | _, _, .name _ _ c => by rw [List.length_cons, List.length_cons, c.length]
theorem Caps.noStar {X : Cx} : ∀ {ps : List Pattern} {g : List (Option Nat)}, Caps X ps g → ps.findIdx? (·.isStar) = none
  | _, _, .nil => rfl
  | _, _, .skip c => by rw [List.findIdx?_cons, c.noStar]; rfl
  | _, _, .name _ _ c => by rw [List.findIdx?_cons, c.noStar]; rfl
/-- what the names of such a row get -/
def bound : List Pattern → List Value → List (Str × Value)
  | .MatchAs none n _ :: ps, u :: us => (n.map (·, u)).toList ++ bound ps us
  | _, _ => []
section
variable {X : Cx}
theorem Caps.each {A : Around} {E : Value → Shared → Prop} : ∀ {ps : List Pattern} {g : List (Option Nat)} {us : List Value} {s : Shared} {Q : Option (List (Str × Value)) → Shared → Prop}, Caps X ps g → us.length = ps.length →
    Q (some (bound ps us)) s → wpAny (model X.prog X.w) A (matchEach ps X.env us) Q E s
  | _, _, [], _, _, .nil, _, h => wpAny_matchEach_nil h
  | _, _, _ :: _, _, _, .nil, e, _ => by cases e
  | _, _, [], _, _, .skip _, e, _ => by cases e
  | _, _, [], _, _, .name _ _ _, e, _ => by cases e
  | _, _, u :: us, _, _, .skip c, e, h => wpAny_matchEach_cons (wpAny_matchPattern_Capture (c.each (by simpa using e) h))
  | _, _, u :: us, _, _, .name _ _ c, e, h => wpAny_matchEach_cons (wpAny_matchPattern_Capture (c.each (by simpa using e) h))
theorem Caps.store {pins : List (Addr × Obj)} {H : Hp} {A : Around} {E : Value → Shared → Prop} (hN : X.N.Nodup) : ∀ {ps : List Pattern} {g : List (Option Nat)} {vs : List V} {us : List Value} {σ : L2.St} {s : Shared} {Q : Unit → Shared → Prop}, Caps X ps g → Vals vs us → us.length = ps.length →
    Inv X pins σ H s → (∀ s', Inv X pins (gCaps g vs σ) H s' → Q () s') →
    wpAny (model X.prog X.w) A (assignInOrder ((bound ps us).map fun p => bindName X.env p.1) ((bound ps us).map (·.2))) Q E s
  | _, _, _, _, _, _, _, .nil, r, e, I, h => by
    cases r with
    | nil => exact assignInOrder_nil (h _ I)
    | cons _ _ => cases e
  | _, _, _, _, _, _, _, .skip c, r, e, I, h => by
    cases r with
    | nil => cases e
    | cons r1 r2 => exact c.store hN r2 (by simpa using e) I h
  | _, _, _, _, _, _, _, .name hi hl c, r, e, I, h => by
    cases r with
    | nil => cases e
    | cons r1 r2 =>
      exact assignInOrder_cons (wpAny_bindName (store_ok I hN hi (.inl hl) r1 (fun s' I' => c.store hN r2 (by simpa using e) I' h) (.inr hl)))
/-- the cases of a match, read of the subject's value -/
abbrev TC := V → TS
structure PCs (X : Cx) (cs : List MatchCase) (t : TC) : Prop where
  run : ∀ (pins : List (Addr × Obj)) (s : Shared) (σ : L2.St) (H : Hp) (v : V) (u : Value) (first : Bool) (D : Ends), Inv X pins σ H s → RelV v u → t v D σ H → wpAny (model X.prog X.w) X.A (matchCases cs X.env u first) (SP X pins D) X.xe s
def cNil : TC := fun _ D σ H => D.nx σ H
theorem pcs_nil : PCs X [] cNil := ⟨fun pins s σ H v u first D I r h => wpAny_matchCases_nil ⟨σ, H, I, h⟩⟩
/-- a word and names, of a tuple -/
def cWord (K : PySem.W.Frag) (r : R2) (w : Str) (g : List (Option Nat)) (t : TS) (tc : TC) : TC := fun v D σ H => ∃ a xs, v = .ref a ∧ SqT K H a xs ∧
  (if xs.length = g.length + 1 then ∀ x ys, xs = x :: ys → r x (.str w) H fun z H1 => ∃ c, z = .bl c ∧ if c = true then t D (gCaps g ys σ) H1 else tc v D σ H1 else tc v D σ H)
theorem pcs_word {w : Str} {ps : List Pattern} {g : List (Option Nat)} {body : List Stmt} {rest : List MatchCase} {t : TS} {tc : TC} {r : R2} {j : Nat} {p1 p2 p3 : Pos} (hN : X.N.Nodup) (hc : X.calm = true) (ho : OpR X (compareOp .Eq) r) (h1 : Caps X ps g) (h2 : PSs X body t) (h3 : PCs X rest tc) :
    PCs X (⟨.MatchSequence (.MatchValue (.Constant (.str w) j p1) p2 :: ps) p3, none, body⟩ :: rest) (cWord X.K r w g t tc) := by
  refine ⟨fun pins s σ H v u first D I rv h => ?_⟩
  obtain ⟨a, xs, rfl, hq, h⟩ := h
  cases rv
  obtain ⟨its, rv, ht, hz⟩ := I.tuple hq
  have hl := rv.length
  have hgl := h1.length
  have hfit : (its.toArray.size : Int) < 2 ^ 63 := by
    have : sizeLine < 2 ^ 63 := by decide
    simp only [List.size_toArray]
    omega
  have hst : ((Pattern.MatchValue (.Constant (.str w) j p1) p2) :: ps).findIdx? (·.isStar) = none := by rw [List.findIdx?_cons, h1.noStar]; rfl
  have hwd : (((Pattern.MatchValue (.Constant (.str w) j p1) p2) :: ps).all fun p => p.isWildcard || (p.isStar && p.names.isEmpty)) = false := by rw [List.all_cons]; rfl
  have I0 : ∀ t, Inv X pins σ H { s with toks := t } := fun t => I.tok _
  refine wpAny_matchCases_cons ?_
  by_cases hn : xs.length = g.length + 1
  · rw [if_pos hn] at h
    refine matchSeq_tuple_hit ht hfit (by simp only [List.size_toArray, List.length_cons]; omega) ?_ hst hwd
    have e0 : (Pattern.MatchValue (.Constant (.str w) j p1) p2 :: ps).length = its.toArray.size := by simp only [List.size_toArray, List.length_cons]; omega
    rw [e0]
    refine unpackItems_tuple (I.ok.hd hc) ht fun h' hx => ?_
    have I1 : Inv X pins σ H { s with heap := h', toks := s.toks + 1 + 1 } := I.kept (t' := s.toks + 1 + 1) fun b o e => hx b o (Nat.ne_of_lt (Heap.lt_size e)) e
    cases rv with
    | nil => simp at hn
    | cons rx ry =>
      rename_i x u1 ys us
      have h := h x ys rfl
      refine wpAny_matchEach_cons (wpAny_matchPattern_Value (Calls.Constant_str ?_))
      refine thn (ho pins _ σ H x (.str w) u1 _ _ (I1.tok _) rx ⟨_, rfl⟩ h) fun c s2 hz => ?_
      obtain ⟨z, H1, I2, rz, c, e, q⟩ := hz
      subst e
      cases rz
      refine wpAny_truthy_bool ?_
      have hl2 : us.length = ps.length := by simp only [List.length_cons] at hl hn; omega
      cases c with
      | true =>
        rw [if_pos rfl] at q
        refine h1.each hl2 ?_
        refine h1.store hN ry hl2 I2 fun s3 I3 => ?_
        exact h2.run pins s3 _ H1 D I3 q
      | false =>
        rw [if_neg (by decide)] at q
        exact h3.run pins s2 σ H1 (.ref a) _ _ D I2 rfl q
  · rw [if_neg hn] at h
    refine matchSeq_tuple_miss ht hfit (by simp only [List.size_toArray, List.length_cons]; omega) ?_ hst hwd
    exact h3.run pins _ σ H (.ref a) _ _ D (I0 _) rfl h
def tMatch (te : TE) (tc : TC) : TS := fun D σ H => te σ H fun v H1 => tc v D σ H1
theorem ps_match {e : Expr} {cs : List MatchCase} {te : TE} {tc : TC} {pos : Pos} (he : PE X e te) (hc : PCs X cs tc) : PS X (.Match e cs pos) (tMatch te tc) :=
  ⟨fun pins s σ H D I h => wpAny_Match (thn (he.run pins s σ H _ I h) fun u s1 ⟨v, H1, I1, r, q⟩ => hc.run pins s1 σ H1 v u true D I1 r q)⟩
end
end PK

set_option Elab.async false
set_option linter.all false
set_option maxRecDepth 100000
/-! t[::-1] of a short tuple. -/
namespace PK
open PySem L2 PySem.Spec PyProof.Rows HT
section
variable {prog : Program} {w : World} {A : Around} {E : Value → Shared → Prop} {s : Shared}
theorem back_parts {sl : Addr} {vs : Value} {n : Nat} {Q : Int × Int × Nat → Shared → Prop} (hs : s.heap.IsSliceOf sl .none .none vs) (pv : IsPart vs (some (-1))) (hn : n ≤ 2)
    (h : Q (((n : Int) - 1), -1, n) s) : wpAny (model prog w) A (Builtin.Slice.sliceApplied (.ref sl) (pure (n : Int))) Q E s := by
  obtain ⟨os, hos, hcs, hds⟩ := id hs
  unfold Builtin.Slice.sliceApplied Builtin.Slice.sliceFields
  refine wpAny_bind (wpAny_bind (wpAny_field hos hds (x := .none) rfl (wpAny_bind (wpAny_field hos hds (x := .none) rfl (wpAny_bind (wpAny_field hos hds (x := vs) rfl (wpAny_pure ?_)))))))
  refine wpAny_bind (slicePart_ pv ?_)
  show wpAny _ _ (if ((-1 : Int) == 0) = true then _ else _) _ _ s
  rw [if_neg (by decide)]
  refine wpAny_bind (slicePart_none (wpAny_bind (slicePart_none (wpAny_bind (wpAny_pure ?_)))))
  match n, hn with
  | 0, _ => exact wpAny_pure h
  | 1, _ => exact wpAny_pure h
  | 2, _ => exact wpAny_pure h
theorem back_item {t sl : Addr} {items : Array Value} {vs : Value} {Q : Value → Shared → Prop} (ht : IsTup s.heap t items) (hs : s.heap.IsSliceOf sl .none .none vs) (pv : IsPart vs (some (-1))) (hn : items.size ≤ 2)
    (h : Q (.ref s.heap.objs.size) { s with heap := s.heap.push { cls := .type "tuple", data := .seq items.toList.reverse.toArray } }) : wpAny (model prog w) A (getItem (.ref t) (.ref sl)) Q E s := by
  have hz : sizeOk (.seq items.toList.reverse.toArray) := by
    show items.toList.reverse.toArray.size ≤ sizeLine
    rw [List.size_toArray, List.length_reverse, Array.length_toList]
    have : 2 ≤ sizeLine := by decide
    omega
  obtain ⟨os, hos, hcs, hds⟩ := id hs
  have hTs : s.TypeIs (.ref sl) "slice" := ⟨os, hos, hcs⟩
  unfold getItem
  try with_reducible refine wpAny_holding ?_
  first | refine wpAny_bind (wpAny_pure ?_) | skip
  refine wpAny_bind (wpAny_sequenceKey ht.typeIs (by decide) ?_)
  refine wpAny_bind (wpAny_callSpecial?_slot (name := Str.ofString "__getitem__") ht.typeIs PyProof.Rows.slot_tuple_getitem
    (wpAny_call_entry PyProof.Rows.slot_tuple_getitem ht.typeIs entry_tuple_getitem ?_ (args_tuple_getitem _ _)))
  show wpAny _ _ (Builtin.Tuple.tupleItemsOf (.ref t) >>= _) _ _ s
  refine wpAny_bind (tupleItemsOf_ ht ?_)
  refine wpAny_bind (wpAny_typeOf hTs ?_)
  rw [if_pos (by decide)]
  refine wpAny_bind (back_parts hs pv hn ?_)
  show wpAny _ _ (if (((items.size : Int) - 1) == 0 && (-1 : Int) == 1 && items.size == items.size) = true then _ else _) _ _ s
  rw [if_neg (by rw [show ((-1 : Int) == 1) = false from rfl]; simp)]
  have e : ((List.range items.size).filterMap fun (m : Nat) => items[(((items.size : Int) - 1) + (m : Int) * -1).toNat]?).toArray = items.toList.reverse.toArray := by
    obtain ⟨its⟩ := items
    match its, hn with
    | [], _ => rfl
    | [a], _ => rfl
    | [a, b], _ => rfl
    | a :: b :: c :: r, h => simp at h
  rw [e]
  first
    | exact wpAny_bind (m := Builtin.Tuple.tupleExact _) (wpAny_newObj_type (wpAny_pure ⟨_, rfl, wpAny_pure h⟩) hz)
    | exact wpAny_bind (m := Builtin.Tuple.tupleExact _) (wpAny_newObj_type (wpAny_bind (wpAny_pure (wpAny_pure ⟨_, rfl, wpAny_pure h⟩))) hz)
    | exact wpAny_bind (wpAny_bind (m := Builtin.Tuple.tupleExact _) (wpAny_newObj_type (wpAny_pure (wpAny_pure ⟨_, rfl, wpAny_pure h⟩)) hz))
    | exact wpAny_bind (wpAny_bind (m := Builtin.Tuple.tupleExact _) (wpAny_newObj_type (wpAny_pure ⟨_, rfl, wpAny_pure h⟩) hz))
end
def tBack (K : PySem.W.Frag) (te : TE) : TE := fun σ H Q => te σ H fun x H1 => ∃ a xs, x = .ref a ∧ SqT K H1 a xs ∧ xs.length ≤ 2 ∧ ∀ p, H1 p = none → Q (.ref p) (upd H1 p (.tup xs.reverse))
theorem vals_back : ∀ {xs : List V} {us : List Value}, Vals xs us → Vals xs.reverse us.reverse
  | _, _, .nil => .nil
  | _, _, .cons r t => by
    rw [List.reverse_cons, List.reverse_cons]
    exact Vals.append (vals_back t) (.cons r .nil)
theorem pe_back {X : Cx} {e : Expr} {te : TE} {j : Nat} {p1 p2 p3 pos : Pos} (he : PE X e te) : PE X (.Subscript e (.Slice none none (some (.UnaryOp .USub (.Constant (.int 1) j p1) p2)) p3) pos) (tBack X.K te) := by
  refine ⟨fun pins s σ H Q I h => ?_⟩
  refine Subscript_ (thn (he.run pins s σ H _ I h) fun v s1 ⟨x, H1, I1, r1, q1⟩ => ?_)
  obtain ⟨a, xs, rfl, hx, hn, q1⟩ := q1
  cases r1
  have neg : PE X (.UnaryOp .USub (.Constant (.int 1) j p1) p2) (tUn _ (tC (.int 1))) := pe_un un_neg pe_int
  refine wpAny_Slice ?_
  rw [evalPart_none]
  refine wpAny_pure ?_
  refine wpAny_pure ?_
  rw [evalPart_some]
  refine thn (neg.run pins s1 σ H1 (fun z H2 => z = .int (-1) ∧ H2 = H1) I1 ⟨1, rfl, rfl, rfl⟩) fun vk s2 ⟨z, H2, I2, r2, e1, e2⟩ => ?_
  subst e1 e2
  obtain ⟨tk, rfl⟩ := r2
  have I4 : Inv X pins σ H2 { s2 with heap := s2.heap.push { cls := .type "slice", data := .fields #[.none, .none, .int (-1) tk] } } := I2.kept (t' := s2.toks) fun b ob q => Heap.get?_push_of_some _ q
  obtain ⟨its, r, ht, hz⟩ := I4.tuple hx
  have hl := r.length
  refine tail_any (ops := [.ref a, .ref s2.heap.objs.size]) ht.typeIs PyProof.Rows.slot_tuple_getitem.lookup ?_ (by with_unfolding_all rfl)
  refine back_item ht (Heap.IsSliceOf.new ..) (.int _ _) (by rw [List.size_toArray]; omega) ?_
  refine ⟨.ref _, _, I4.laid (t' := s2.toks) (o := .tup xs.reverse) (fun b ob q => Heap.get?_push_of_some _ q) (Nat.le_refl _) ?_, rfl, q1 _ (I4.hok.fresh (Nat.le_refl _))⟩
  refine ⟨by rw [List.length_reverse]; exact hz, its.reverse, vals_back r, ?_⟩
  exact IsTup.new _ _
end PK

set_option Elab.async false
set_option linter.all false
set_option maxRecDepth 100000
/-! Steps for match, for an own class's methods; events and timetables as data tells them. -/
namespace PK
open PySem L2
/-! ### match -/
section
variable {K : PySem.W.Frag} {σ : L2.St} {H : Hp} {D : Ends}
def isW (w : Str) (d : PyData) : Bool := PyData.eqv d (.str w)
theorem isW_str (w x : Str) : isW w (.str x) = decide (x = w) := by
  simp only [isW, PyData.eqv]
  exact Bool.beq_eq_decide_eq x w
theorem w_match {te : TE} {tc : TC} (k : te σ H fun v H1 => tc v D σ H1) : tMatch te tc D σ H := k
theorem c_nil {v : V} (k : D.nx σ H) : cNil v D σ H := k
theorem c_skip {r : R2} {w : Str} {g : List (Option Nat)} {t : TS} {tc : TC} {a : Addr} {xs : List V} (h : SqT K H a xs) (hn : xs.length ≠ g.length + 1) (k : tc (.ref a) D σ H) : cWord K r w g t tc (.ref a) D σ H :=
  ⟨a, xs, rfl, h, by rw [if_neg hn]; exact k⟩
theorem c_try {w : Str} {g : List (Option Nat)} {t : TS} {tc : TC} {a : Addr} {x : V} {ys : List V} {d : PyData} {n : Nat} (h : SqT K H a (x :: ys)) (hl : ys.length = g.length) (hd : Dp K H x d) (hf : Fine n d) (hn : n ≤ 63) (hw : PyData.strOk w = true)
    (k1 : isW w d = true → t D (gCaps g ys σ) H) (k2 : isW w d = false → tc (.ref a) D σ H) : cWord K (rEqD K) w g t tc (.ref a) D σ H := by
  refine ⟨a, x :: ys, rfl, h, ?_⟩
  rw [if_pos (by simp [hl])]
  intro x' ys' e
  cases e
  refine ⟨d, .str w, hd, .str w, hf.sh.shaped (by omega), (Sh.str (n := 0) hw).shaped (by omega), isW w d, rfl, ?_⟩
  cases q : isW w d with
  | true => rw [if_pos rfl]; exact k1 q
  | false => rw [if_neg (by decide)]; exact k2 q
/-- an event whose word is known -/
theorem c_yes {w : Str} {g : List (Option Nat)} {t : TS} {tc : TC} {a : Addr} {ys : List V} (h : SqT K H a (.str w :: ys)) (hl : ys.length = g.length) (hw : PyData.strOk w = true) (k : t D (gCaps g ys σ) H) : cWord K (rEqD K) w g t tc (.ref a) D σ H :=
  c_try (n := 0) (d := .str w) h hl (.str w) hw (by omega) hw (fun _ => k) fun q => by
    rw [isW_str] at q
    simp at q
theorem c_not {w u : Str} {g : List (Option Nat)} {t : TS} {tc : TC} {a : Addr} {ys : List V} (h : SqT K H a (.str u :: ys)) (ho : PyData.strOk u = true) (hw : PyData.strOk w = true) (ne : ¬ u = w) (k : tc (.ref a) D σ H) : cWord K (rEqD K) w g t tc (.ref a) D σ H := by
  by_cases hl : ys.length = g.length
  · exact c_try (n := 0) (d := .str u) h hl (.str u) ho (by omega) hw (fun q => by
      rw [isW_str] at q
      exact (ne (of_decide_eq_true q)).elim) fun _ => k
  · exact c_skip h (by simp [hl]) k
end
theorem w_ixS {K : PySem.W.Frag} {H : Hp} {Q : VK} {v : V} {p : Addr} {xs : List V} {i : Int} (h : SqT K H p xs) (hx : atI xs i = some v) (k : Q v H) : rIxT K (.ref p) (.int i) H Q := ⟨p, xs, i, v, rfl, rfl, h, hx, k⟩
theorem WK.w_chain {r r' : R2} {ta tb tc : TE} {σ : L2.St} {H : Hp} {Q : VK} (k : ta σ H fun x H1 => tb σ H1 fun y H2 => r x y H2 fun z H3 => ∃ k, z = .bl k ∧ (if k = true then tc σ H3 fun w' H4 => r' y w' H4 Q else Q (.bl false) H3)) : tChain r r' ta tb tc σ H Q := k
/-! ### an own class -/
structure DfM (K : PySem.W.Frag) (C : Addr) (m q : Str) (st : Stmt) (ps : List Str) : Prop where
  ex : ∃ f fd, Fun K m q st f fd ∧ Meth K C m f ∧ Binds K fd ps []
structure DfI (K : PySem.W.Frag) (mg : Str → Option Value) (C : Addr) (x q : Str) (st : Stmt) (ps : List Str) : Prop where
  ex : ∃ f fd, Fun K "__init__" q st f fd ∧ Mk K C f ∧ mg x = some (.ref C) ∧ Binds K fd ps []
structure HasM (P : Program) (w : World) (K : PySem.W.Frag) (mg : Str → Option Value) (base : Heap) (C : Addr) (k : Nat) (m : Str) (ps : List Str) (sp : Sp) : Prop where
  ex : ∃ f fd, FnOk P w K mg base CX0 k f fd ps sp ∧ Meth K C m f ∧ Binds K fd ps []
structure HasI (P : Program) (w : World) (K : PySem.W.Frag) (mg : Str → Option Value) (base : Heap) (C : Addr) (k : Nat) (x : Str) (ps : List Str) (sp : Sp) : Prop where
  ex : ∃ f fd, FnOk P w K mg base CX0 k f fd ps sp ∧ Mk K C f ∧ mg x = some (.ref C) ∧ Binds K fd ps []
section
variable {P : Program} {w : World} {K : PySem.W.Frag} {mg : Str → Option Value} {base : Heap} {C : Addr}
theorem HasM.mk' {k : Nat} {m q : Str} {st : Stmt} {ps : List Str} {sp : Sp} (D : DfM K C m q st ps) (h : ∀ f fd, Fun K m q st f fd → FnOk P w K mg base CX0 k f fd ps sp) : HasM P w K mg base C k m ps sp := by
  obtain ⟨f, fd, F, r⟩ := D.ex
  exact ⟨f, fd, h f fd F, r⟩
theorem HasI.mk' {k : Nat} {x q : Str} {st : Stmt} {ps : List Str} {sp : Sp} (D : DfI K mg C x q st ps) (h : ∀ f fd, Fun K "__init__" q st f fd → FnOk P w K mg base CX0 k f fd ps sp) : HasI P w K mg base C k x ps sp := by
  obtain ⟨f, fd, F, r⟩ := D.ex
  exact ⟨f, fd, h f fd F, r⟩
end
theorem pe_fldK {X : Cx} {K : PySem.W.Frag} {e : Expr} {f : Str} {pos : Pos} {ta : TE} (he : PE X e ta) (hb : attributeBase e f X.env (eval e X.env) = eval e X.env) (hK : X.K = K := by rfl) : PE X (.Attribute e f pos) (tFld K ta f) := by subst hK; exact pe_fld he hb
section
variable {X : Cx} {C : Addr} {k : Nat} {x m : Str} {ps : List Str} {sp : Sp} {o e : Expr} {es : List Expr} {apos pos p : Pos} {ta : TE} {t : TA}
theorem pe_methH {pl : Sem Bool} (he : PE X o ta) (D : HasM X.prog X.w X.K X.mg X.base C k m ps sp) (c : Cls X.K C) (hr : Room k X.A) (ha : PA X (e :: es) t)
    (hst : starEach (e :: es) X.env = (false, eval e X.env) :: starEach es X.env := by rfl) (hpl : (backTo pos (starEach es X.env)).any (·.1) = false := by rfl)
    (ht : eval (.Call (.Attribute o m apos) (e :: es) [] pos) X.env = (do
      let ov ← eval o X.env
      standAt apos.atName
      let (f, first) ← holding [ov] (getMethod ov m pl)
      callWith pos f first (backTo pos (starEach (e :: es) X.env)) (backToKw pos (keywordEach [] X.env))) := by rfl) :
    PE X (.Call (.Attribute o m apos) (e :: es) [] pos) (tMeth C m sp [] E0 ta t) := by
  obtain ⟨f, fd, F, me, b⟩ := D.ex
  exact pe_meth he c me F hr b .nil pass0 ha hst hpl ht
theorem pe_meth0H {pl : Sem Bool} (he : PE X o ta) (D : HasM X.prog X.w X.K X.mg X.base C k m ps sp) (c : Cls X.K C) (hr : Room k X.A)
    (ht : eval (.Call (.Attribute o m apos) [] [] pos) X.env = (do
      let ov ← eval o X.env
      standAt apos.atName
      let (f, first) ← holding [ov] (getMethod ov m pl)
      callWith pos f first (backTo pos (starEach [] X.env)) (backToKw pos (keywordEach [] X.env))) := by rfl) :
    PE X (.Call (.Attribute o m apos) [] [] pos) (tMeth C m sp [] E0 ta tNil) := by
  obtain ⟨f, fd, F, me, b⟩ := D.ex
  exact pe_meth0 he c me F hr b .nil pass0 ht
theorem pe_makeH (D : HasI X.prog X.w X.K X.mg X.base C k x ps sp) (hr : Room (k + 1) X.A) (hg : Gl X x) (hdb : (x == ("__debug__" : Str)) = false := by decide) : PE X (.Call (.Name x p) [] [] pos) (tMake C sp [] E0 tNil) := by
  obtain ⟨f, fd, F, M, m, b⟩ := D.ex
  exact pe_make0 M F hr hg m b .nil pass0 hdb
end
/-! ### data that the law draws: not deep, not long -/
def Fb : Nat → PyData → Prop
  | _, .none => True
  | _, .bool _ => True
  | _, .int _ => True
  | _, .str x => PyData.strOk x = true ∧ x.length ≤ 1000
  | n + 1, .list ds => ds.length ≤ 1000 ∧ ∀ d ∈ ds, Fb n d
  | n + 1, .tuple ds => ds.length ≤ 1000 ∧ ∀ d ∈ ds, Fb n d
  | _, _ => False
theorem Fb.fine : ∀ {n : Nat} {d : PyData}, Fb n d → Fine n d
  | 0, .none, _ => trivial
  | 0, .bool b, _ => trivial
  | 0, .int i, _ => trivial
  | 0, .str x, h => h.1
  | 0, .list _, h => h.elim
  | 0, .tuple _, h => h.elim
  | 0, .dict _, h => h.elim
  | n + 1, .none, _ => trivial
  | n + 1, .bool b, _ => trivial
  | n + 1, .int i, _ => trivial
  | n + 1, .str x, h => h.1
  | n + 1, .list ds, h => ⟨h.1, fun d hd => (h.2 d hd).fine⟩
  | n + 1, .tuple ds, h => ⟨h.1, fun d hd => (h.2 d hd).fine⟩
  | n + 1, .dict _, h => h.elim
theorem Fb.up : ∀ {n : Nat} {d : PyData}, Fb n d → Fb (n + 1) d
  | 0, .none, _ => trivial
  | 0, .bool b, _ => trivial
  | 0, .int i, _ => trivial
  | 0, .str x, h => h
  | 0, .list _, h => h.elim
  | 0, .tuple _, h => h.elim
  | 0, .dict _, h => h.elim
  | n + 1, .none, _ => trivial
  | n + 1, .bool b, _ => trivial
  | n + 1, .int i, _ => trivial
  | n + 1, .str x, h => h
  | n + 1, .list ds, h => ⟨h.1, fun d hd => (h.2 d hd).up⟩
  | n + 1, .tuple ds, h => ⟨h.1, fun d hd => (h.2 d hd).up⟩
  | n + 1, .dict _, h => h.elim
/-- a test of one value of such data -/
def spAsk (K : PySem.W.Frag) (f : PyData → Bool) (n : Nat) : Sp := fun vs H Q _ => ∃ (v : V) (d : PyData), vs = [v] ∧ Dp K H v d ∧ Fb n d ∧ ∀ H', Gr [] H H' → Q (.bl (f d)) H'
end PK

set_option Elab.async false
set_option linter.all false
set_option maxRecDepth 100000
/-! The Log: what it holds, as mathematics, and where it stands. -/
namespace PK
open PySem L2
structure LS where
  hold : Int
  guards : List (Str × Int)
  time : Int
  ents : List (Str × Option Int)
  gone : List Bool
  since : List (Option Int)
  seats : List (Int × Int)
  tabs : List (Int × List (Str × Int))
  copies : List (Int × List (Str × Int))
def optV : Option Int → V
  | none => .non
  | some i => .int i
/-- a dict's row of pairs, a key put -/
def putA {α β : Type} [DecidableEq α] (l : List (α × β)) (a : α) (b : β) : List (α × β) := if (l.any fun p => decide (p.1 = a)) = true then l.map (fun p => if p.1 = a then (p.1, b) else p) else l ++ [(a, b)]
def getA {α β : Type} [DecidableEq α] (l : List (α × β)) (a : α) : Option β := (l.find? fun p => decide (p.1 = a)).map (·.2)
def delA {α β : Type} [DecidableEq α] (l : List (α × β)) (a : α) : List (α × β) := l.filter fun p => decide (p.1 ≠ a)
section
variable {α β : Type} [DecidableEq α]
theorem put_map (k : α → Key) (hk : ∀ x y, k x = k y → x = y) (v : β → V) (l : List (α × β)) (a : α) (b : β) : putK (l.map fun p => (k p.1, v p.2)) (k a) (v b) = (putA l a b).map fun p => (k p.1, v p.2) := by
  have e : ∀ p : α × β, decide (k p.1 = k a) = decide (p.1 = a) := fun p => by
    by_cases h : p.1 = a
    · rw [h]; simp
    · rw [decide_eq_false h, decide_eq_false fun q => h (hk _ _ q)]
  have e2 : ((l.map fun p => (k p.1, v p.2)).any fun kv => decide (kv.1 = k a)) = l.any fun p => decide (p.1 = a) := by
    rw [List.any_map]
    congr 1
    funext p
    exact e p
  unfold putK putA
  rw [e2]
  by_cases h : (l.any fun p => decide (p.1 = a)) = true
  · rw [if_pos h, if_pos h, List.map_map, List.map_map]
    refine List.map_congr_left fun p _ => ?_
    show (if k p.1 = k a then (k p.1, v b) else (k p.1, v p.2)) = _
    by_cases q : p.1 = a
    · simp [q]
    · rw [if_neg fun z => q (hk _ _ z)]
      simp [q]
  · rw [if_neg h, if_neg h, List.map_append]
    rfl
theorem get_map (k : α → Key) (hk : ∀ x y, k x = k y → x = y) (v : β → V) : ∀ (l : List (α × β)) (a : α), valV (l.map fun p => (k p.1, v p.2)) (k a) = (getA l a).map v
  | [], a => rfl
  | p :: l, a => by
    by_cases h : p.1 = a
    · rw [List.map_cons, valV_pos (by rw [h])]
      simp [getA, List.find?_cons, h]
    · rw [List.map_cons, valV_neg (fun q => h (hk _ _ q)), get_map k hk v l a]
      simp [getA, List.find?_cons, h]
theorem del_map (k : α → Key) (hk : ∀ x y, k x = k y → x = y) (v : β → V) (l : List (α × β)) (a : α) : dropK (l.map fun p => (k p.1, v p.2)) (k a) = (delA l a).map fun p => (k p.1, v p.2) := by
  unfold dropK delA
  rw [List.filter_map]
  congr 1
  refine List.filter_congr fun p _ => ?_
  show decide (k p.1 ≠ k a) = _
  by_cases h : p.1 = a
  · simp [h]
  · have h2 : ¬ k p.1 = k a := fun q => h (hk _ _ q)
    simp [h, h2]
theorem putA_len (l : List (α × β)) (a : α) (b : β) : (putA l a b).length ≤ l.length + 1 := by
  unfold putA
  split
  · rw [List.length_map]; omega
  · rw [List.length_append, List.length_singleton]
    omega
end
theorem inl_inj : ∀ x y : Int, (Sum.inl x : Key) = Sum.inl y → x = y := fun _ _ h => Sum.inl.inj h
theorem inr_inj : ∀ x y : Str, (Sum.inr x : Key) = Sum.inr y → x = y := fun _ _ h => Sum.inr.inj h
def seatsV (l : List (Int × Int)) : List (Key × V) := l.map fun p => (Sum.inl p.1, V.int p.2)
def tabV (l : List (Str × Int)) : List (Key × V) := l.map fun p => (Sum.inr p.1, V.int p.2)
def tabsV (l : List (Int × Addr)) : List (Key × V) := l.map fun p => (Sum.inl p.1, V.ref p.2)
/-- a tuple of which the object is known: it has no dict -/
def FzT (H : Hp) (b : Addr) (xs : List V) : Prop := ∃ ob : Obj, H b = some (.frz ob (.tup xs)) ∧ ob.cls = .type "tuple" ∧ ob.dict = none
theorem FzT.gr {H H' : Hp} {M : List Addr} {b : Addr} {xs : List V} (h : FzT H b xs) (g : Gr M H H') : FzT H' b xs := by
  obtain ⟨ob, h1, h2, h3⟩ := h
  exact ⟨ob, g.fix _ _ _ h1, h2, h3⟩
/-- what a copy is: its place, its pairs -/
def IsCp (H : Hp) (v : V) (c : Int × List (Str × Int)) : Prop := ∃ a b xs, v = .ref a ∧ H a = some (.tup [.int c.1, .ref b]) ∧ FzT H b xs ∧ Tps H xs (c.2.map fun q => [.str q.1, .int q.2])
theorem IsCp.gr {H H' : Hp} {M : List Addr} {v : V} {c : Int × List (Str × Int)} (h : IsCp H v c) (g : Gr M H H') : IsCp H' v c := by
  obtain ⟨a, b, xs, e, h1, h2, h3⟩ := h
  exact ⟨a, b, xs, e, g.tup _ _ h1, h2.gr g, h3.gr g⟩
abbrev Cps (H : Hp) : List V → List (Int × List (Str × Int)) → Prop := Paired (IsCp H)
theorem Cps.gr {H H' : Hp} {M : List Addr} {xs : List V} {cs : List (Int × List (Str × Int))} (h : Cps H xs cs) (g : Gr M H H') : Cps H' xs cs := Paired.mono (fun _ _ q => q.gr g) h
/-- where its parts stand -/
structure LA where
  gu : Addr
  en : Addr
  go : Addr
  si : Addr
  se : Addr
  ta : Addr
  co : Addr
abbrev nH : Str := "_hold"
abbrev nG : Str := "_guards"
abbrev nT : Str := "_time"
abbrev nE : Str := "_entries"
abbrev nO : Str := "_gone"
abbrev nI : Str := "_since"
abbrev nS : Str := "_seats"
abbrev nA : Str := "_tables"
abbrev nC : Str := "_copies"
abbrev lF (h : Int) (A : LA) (t : Int) : List (Str × V) := [(nH, .int h), (nG, .ref A.gu), (nT, .int t), (nE, .ref A.en), (nO, .ref A.go), (nI, .ref A.si), (nS, .ref A.se), (nA, .ref A.ta), (nC, .ref A.co)]
structure LogC (K : PySem.W.Frag) (C : Addr) : Prop where
  cl : Cls K C
  h : NoAttr K C nH
  g : NoAttr K C nG
  t : NoAttr K C nT
  e : NoAttr K C nE
  o : NoAttr K C nO
  i : NoAttr K C nI
  s : NoAttr K C nS
  a : NoAttr K C nA
  c : NoAttr K C nC
theorem look_ne {x y : Str} {v : V} {l : List (Str × V)} (h : (x == y) = false) : ((y, v) :: l).lookup x = l.lookup x := by simp [List.lookup, h]
theorem look_eq {x : Str} {v : V} {l : List (Str × V)} : ((x, v) :: l).lookup x = some v := by simp [List.lookup]
theorem look_nil {x : Str} : ([] : List (Str × V)).lookup x = none := rfl
theorem put_ne {x y : Str} {v u : V} {l : List (Str × V)} (h : ¬ y = x) : putF x u ((y, v) :: l) = (y, v) :: putF x u l := by
  simp only [putF]; rw [if_neg h]
theorem put_eq {x : Str} {v u : V} {l : List (Str × V)} : putF x u ((x, v) :: l) = (x, u) :: l := by
  simp only [putF]; rw [if_pos trivial]
section
variable {h t u : Int} {A : LA}
theorem lF_nH : (lF h A t).lookup nH = some (.int h) := look_eq
theorem lF_nG : (lF h A t).lookup nG = some (.ref A.gu) := (look_ne (by decide +kernel)).trans (look_eq)
theorem lF_nT : (lF h A t).lookup nT = some (.int t) := (look_ne (by decide +kernel)).trans ((look_ne (by decide +kernel)).trans (look_eq))
theorem lF_nE : (lF h A t).lookup nE = some (.ref A.en) := (look_ne (by decide +kernel)).trans ((look_ne (by decide +kernel)).trans ((look_ne (by decide +kernel)).trans (look_eq)))
theorem lF_nO : (lF h A t).lookup nO = some (.ref A.go) := (look_ne (by decide +kernel)).trans ((look_ne (by decide +kernel)).trans ((look_ne (by decide +kernel)).trans ((look_ne (by decide +kernel)).trans (look_eq))))
theorem lF_nI : (lF h A t).lookup nI = some (.ref A.si) := (look_ne (by decide +kernel)).trans ((look_ne (by decide +kernel)).trans ((look_ne (by decide +kernel)).trans ((look_ne (by decide +kernel)).trans ((look_ne (by decide +kernel)).trans (look_eq)))))
theorem lF_nS : (lF h A t).lookup nS = some (.ref A.se) := (look_ne (by decide +kernel)).trans ((look_ne (by decide +kernel)).trans ((look_ne (by decide +kernel)).trans ((look_ne (by decide +kernel)).trans ((look_ne (by decide +kernel)).trans ((look_ne (by decide +kernel)).trans (look_eq))))))
theorem lF_nA : (lF h A t).lookup nA = some (.ref A.ta) := (look_ne (by decide +kernel)).trans ((look_ne (by decide +kernel)).trans ((look_ne (by decide +kernel)).trans ((look_ne (by decide +kernel)).trans ((look_ne (by decide +kernel)).trans ((look_ne (by decide +kernel)).trans ((look_ne (by decide +kernel)).trans (look_eq)))))))
theorem lF_nC : (lF h A t).lookup nC = some (.ref A.co) := (look_ne (by decide +kernel)).trans ((look_ne (by decide +kernel)).trans ((look_ne (by decide +kernel)).trans ((look_ne (by decide +kernel)).trans ((look_ne (by decide +kernel)).trans ((look_ne (by decide +kernel)).trans ((look_ne (by decide +kernel)).trans ((look_ne (by decide +kernel)).trans (look_eq))))))))
theorem lF_put : putF nT (.int u) (lF h A t) = lF h A u := by
  rw [put_ne (by decide +kernel), put_ne (by decide +kernel), put_eq]
theorem lF_none {x : Str} (h0 : (x == nH) = false := by decide +kernel) (h1 : (x == nG) = false := by decide +kernel) (h2 : (x == nT) = false := by decide +kernel) (h3 : (x == nE) = false := by decide +kernel) (h4 : (x == nO) = false := by decide +kernel) (h5 : (x == nI) = false := by decide +kernel) (h6 : (x == nS) = false := by decide +kernel) (h7 : (x == nA) = false := by decide +kernel) (h8 : (x == nC) = false := by decide +kernel) : (lF h A t).lookup x = none := by
  rw [look_ne h0, look_ne h1, look_ne h2, look_ne h3, look_ne h4, look_ne h5, look_ne h6, look_ne h7, look_ne h8, look_nil]
end
/-! where a Log stands -/
def own (p : Addr) (A : LA) (ad : List Addr) : List Addr := p :: A.en :: A.go :: A.si :: A.se :: A.ta :: A.co :: ad
structure LogAt (C : Addr) (H : Hp) (p : Addr) (A : LA) (L : List (Int × Addr)) (s : LS) : Prop where
  ob : ∃ dx, H p = some (.ins C dx (lF s.hold A s.time))
  gu : ∃ gs, H A.gu = some (.tup gs) ∧ Tps H gs (s.guards.map fun g => [.str g.1, .int g.2])
  en : ∃ es, H A.en = some (.lst es) ∧ Tps H es (s.ents.map fun e => [.str e.1, optV e.2])
  go : H A.go = some (.lst (s.gone.map V.bl))
  si : H A.si = some (.lst (s.since.map optV))
  se : H A.se = some (.dK (seatsV s.seats))
  ta : H A.ta = some (.dK (tabsV L))
  td : Paired (fun q t => q.1 = t.1 ∧ H q.2 = some (.dK (tabV t.2))) L s.tabs
  co : ∃ cs, H A.co = some (.lst cs) ∧ Cps H cs s.copies
  kn : (L.map (·.1)).Nodup
  nd : (own p A (L.map (·.2))).Nodup
/-- what holds of every Log that was begun and gone on with by events that come -/
structure LS.Ok (s : LS) (n : Nat) : Prop where
  eg : s.gone.length = s.ents.length
  es : s.since.length = s.ents.length
  en : s.ents.length ≤ n
  s0 : ∀ p ∈ s.seats, 0 ≤ p.2 ∧ p.2 ≤ s.ents.length
  sl : s.seats.length ≤ n
  tl : s.tabs.length ≤ n
  c0 : ∀ c ∈ s.copies, 0 ≤ c.1 ∧ c.1 ≤ s.ents.length
  cl : s.copies.length ≤ n
  g0 : ∀ g ∈ s.guards, 0 ≤ g.2
  tw : ∀ t ∈ s.tabs, t.2.length ≤ n * n
  cw : ∀ c ∈ s.copies, c.2.length ≤ n * n
theorem pr_on {α β : Type} {F G : α → β → Prop} : ∀ {a : List α} {b : List β}, Paired F a b → (∀ x ∈ a, ∀ y, F x y → G x y) → Paired G a b
  | _, _, .nil, _ => .nil
  | _, _, .cons h t, k => .cons (k _ (by simp) _ h) (pr_on t fun x hx => k x (by simp [hx]))
section
variable {C : Addr} {H H' : Hp} {p : Addr} {A : LA} {L : List (Int × Addr)} {s : LS}
theorem LogAt.keep {M : List Addr} (h : LogAt C H p A L s) (g : Gr M H H') (d : ∀ a ∈ own p A (L.map (·.2)), a ∉ M) : LogAt C H' p A L s := by
  obtain ⟨⟨dx, ob⟩, ⟨gs, g1, g2⟩, ⟨es, e1, e2⟩, go, si, se, ta, td, ⟨cs, c1, c2⟩, kn, nd⟩ := h
  refine ⟨⟨dx, g.keep _ _ (d _ (by simp [own])) ob⟩, ⟨gs, g.tup _ _ g1, g2.gr g⟩, ⟨es, g.keep _ _ (d _ (by simp [own])) e1, e2.gr g⟩, g.keep _ _ (d _ (by simp [own])) go, g.keep _ _ (d _ (by simp [own])) si, g.keep _ _ (d _ (by simp [own])) se,
    g.keep _ _ (d _ (by simp [own])) ta, pr_on td fun q hq t ht => ⟨ht.1, g.keep _ _ (d _ (List.mem_append_right [p, A.en, A.go, A.si, A.se, A.ta, A.co] (List.mem_map.mpr ⟨q, hq, rfl⟩))) ht.2⟩, ⟨cs, g.keep _ _ (d _ (by simp [own])) c1, c2.gr g⟩, kn, nd⟩
theorem LogAt.k0 (h : LogAt C H p A L s) (g : Gr [] H H') : LogAt C H' p A L s := h.keep g (by simp)
theorem LogAt.setTime (h : LogAt C H p A L s) (u : Int) {dx : Addr} (hp : H p = some (.ins C dx (lF s.hold A s.time))) :
    LogAt C (upd H p (.ins C dx (lF s.hold A u))) p A L { s with time := u } ∧ Gr (own p A (L.map (·.2))) H (upd H p (.ins C dx (lF s.hold A u))) := by
  have nd := h.nd
  simp only [own, List.nodup_cons, List.mem_cons, not_or] at nd
  obtain ⟨⟨p1, p2, p3, p4, p5, p6, p7⟩, ⟨e1, e2, e3, e4, e5, e6⟩, ⟨g1, g2, g3, g4, g5⟩, ⟨s1, s2, s3, s4⟩, ⟨b1, b2, b3⟩, ⟨t1, t2⟩, c1, an⟩ := nd
  obtain ⟨⟨dx', ob⟩, ⟨gs, gu1, gu2⟩, ⟨es, en1, en2⟩, go, si, se, ta, td, ⟨cs, co1, co2⟩, knn, ndd⟩ := h
  have g : Gr (own p A (L.map (·.2))) H (upd H p (.ins C dx (lF s.hold A u))) := Gr.mut ob (fun _ z => by cases z) (by simp [own])
  exact ⟨⟨⟨dx, upd_same⟩, ⟨gs, g.tup _ _ gu1, gu2.gr g⟩, ⟨es, by rw [upd_ne (Ne.symm p1)]; exact en1, en2.gr g⟩, by rw [upd_ne (Ne.symm p2)]; exact go, by rw [upd_ne (Ne.symm p3)]; exact si, by rw [upd_ne (Ne.symm p4)]; exact se, by rw [upd_ne (Ne.symm p5)]; exact ta, pr_on td fun q hq t ht => ⟨ht.1, by rw [upd_ne (fun z => p7 (by rw [← z]; exact List.mem_map.mpr ⟨q, hq, rfl⟩))]; exact ht.2⟩, ⟨cs, by rw [upd_ne (Ne.symm p6)]; exact co1, co2.gr g⟩, knn, ndd⟩, g⟩
theorem LogAt.setGo (h : LogAt C H p A L s) (g' : List Bool) :
    LogAt C (upd H A.go (.lst (g'.map V.bl))) p A L { s with gone := g' } ∧ Gr (own p A (L.map (·.2))) H (upd H A.go (.lst (g'.map V.bl))) := by
  have nd := h.nd
  simp only [own, List.nodup_cons, List.mem_cons, not_or] at nd
  obtain ⟨⟨p1, p2, p3, p4, p5, p6, p7⟩, ⟨e1, e2, e3, e4, e5, e6⟩, ⟨g1, g2, g3, g4, g5⟩, ⟨s1, s2, s3, s4⟩, ⟨b1, b2, b3⟩, ⟨t1, t2⟩, c1, an⟩ := nd
  obtain ⟨⟨dx', ob⟩, ⟨gs, gu1, gu2⟩, ⟨es, en1, en2⟩, go, si, se, ta, td, ⟨cs, co1, co2⟩, knn, ndd⟩ := h
  have g : Gr (own p A (L.map (·.2))) H (upd H A.go (.lst (g'.map V.bl))) := Gr.mut go (fun _ z => by cases z) (by simp [own])
  exact ⟨⟨⟨dx', by rw [upd_ne p2]; exact ob⟩, ⟨gs, g.tup _ _ gu1, gu2.gr g⟩, ⟨es, by rw [upd_ne e1]; exact en1, en2.gr g⟩, upd_same, by rw [upd_ne (Ne.symm g1)]; exact si, by rw [upd_ne (Ne.symm g2)]; exact se, by rw [upd_ne (Ne.symm g3)]; exact ta, pr_on td fun q hq t ht => ⟨ht.1, by rw [upd_ne (fun z => g5 (by rw [← z]; exact List.mem_map.mpr ⟨q, hq, rfl⟩))]; exact ht.2⟩, ⟨cs, by rw [upd_ne (Ne.symm g4)]; exact co1, co2.gr g⟩, knn, ndd⟩, g⟩
theorem LogAt.setSi (h : LogAt C H p A L s) (g' : List (Option Int)) :
    LogAt C (upd H A.si (.lst (g'.map optV))) p A L { s with since := g' } ∧ Gr (own p A (L.map (·.2))) H (upd H A.si (.lst (g'.map optV))) := by
  have nd := h.nd
  simp only [own, List.nodup_cons, List.mem_cons, not_or] at nd
  obtain ⟨⟨p1, p2, p3, p4, p5, p6, p7⟩, ⟨e1, e2, e3, e4, e5, e6⟩, ⟨g1, g2, g3, g4, g5⟩, ⟨s1, s2, s3, s4⟩, ⟨b1, b2, b3⟩, ⟨t1, t2⟩, c1, an⟩ := nd
  obtain ⟨⟨dx', ob⟩, ⟨gs, gu1, gu2⟩, ⟨es, en1, en2⟩, go, si, se, ta, td, ⟨cs, co1, co2⟩, knn, ndd⟩ := h
  have g : Gr (own p A (L.map (·.2))) H (upd H A.si (.lst (g'.map optV))) := Gr.mut si (fun _ z => by cases z) (by simp [own])
  exact ⟨⟨⟨dx', by rw [upd_ne p3]; exact ob⟩, ⟨gs, g.tup _ _ gu1, gu2.gr g⟩, ⟨es, by rw [upd_ne e2]; exact en1, en2.gr g⟩, by rw [upd_ne g1]; exact go, upd_same, by rw [upd_ne (Ne.symm s1)]; exact se, by rw [upd_ne (Ne.symm s2)]; exact ta, pr_on td fun q hq t ht => ⟨ht.1, by rw [upd_ne (fun z => s4 (by rw [← z]; exact List.mem_map.mpr ⟨q, hq, rfl⟩))]; exact ht.2⟩, ⟨cs, by rw [upd_ne (Ne.symm s3)]; exact co1, co2.gr g⟩, knn, ndd⟩, g⟩
theorem LogAt.setSe (h : LogAt C H p A L s) (l : List (Int × Int)) :
    LogAt C (upd H A.se (.dK (seatsV l))) p A L { s with seats := l } ∧ Gr (own p A (L.map (·.2))) H (upd H A.se (.dK (seatsV l))) := by
  have nd := h.nd
  simp only [own, List.nodup_cons, List.mem_cons, not_or] at nd
  obtain ⟨⟨p1, p2, p3, p4, p5, p6, p7⟩, ⟨e1, e2, e3, e4, e5, e6⟩, ⟨g1, g2, g3, g4, g5⟩, ⟨s1, s2, s3, s4⟩, ⟨b1, b2, b3⟩, ⟨t1, t2⟩, c1, an⟩ := nd
  obtain ⟨⟨dx', ob⟩, ⟨gs, gu1, gu2⟩, ⟨es, en1, en2⟩, go, si, se, ta, td, ⟨cs, co1, co2⟩, knn, ndd⟩ := h
  have g : Gr (own p A (L.map (·.2))) H (upd H A.se (.dK (seatsV l))) := Gr.mut se (fun _ z => by cases z) (by simp [own])
  exact ⟨⟨⟨dx', by rw [upd_ne p4]; exact ob⟩, ⟨gs, g.tup _ _ gu1, gu2.gr g⟩, ⟨es, by rw [upd_ne e3]; exact en1, en2.gr g⟩, by rw [upd_ne g2]; exact go, by rw [upd_ne s1]; exact si, upd_same, by rw [upd_ne (Ne.symm b1)]; exact ta, pr_on td fun q hq t ht => ⟨ht.1, by rw [upd_ne (fun z => b3 (by rw [← z]; exact List.mem_map.mpr ⟨q, hq, rfl⟩))]; exact ht.2⟩, ⟨cs, by rw [upd_ne (Ne.symm b2)]; exact co1, co2.gr g⟩, knn, ndd⟩, g⟩
theorem LogAt.addEn (h : LogAt C H p A L s) {es0 : List V} (hes : H A.en = some (.lst es0)) {v : V} {k : Str} {o : Option Int} (hv : IsTp H v [.str k, optV o]) :
    LogAt C (upd H A.en (.lst (es0 ++ [v]))) p A L { s with ents := s.ents ++ [(k, o)] } ∧ Gr (own p A (L.map (·.2))) H (upd H A.en (.lst (es0 ++ [v]))) := by
  have nd := h.nd
  simp only [own, List.nodup_cons, List.mem_cons, not_or] at nd
  obtain ⟨⟨p1, p2, p3, p4, p5, p6, p7⟩, ⟨e1, e2, e3, e4, e5, e6⟩, ⟨g1, g2, g3, g4, g5⟩, ⟨s1, s2, s3, s4⟩, ⟨b1, b2, b3⟩, ⟨t1, t2⟩, c1, an⟩ := nd
  obtain ⟨⟨dx', ob⟩, ⟨gs, gu1, gu2⟩, ⟨es, en1, en2⟩, go, si, se, ta, td, ⟨cs, co1, co2⟩, knn, ndd⟩ := h
  rw [hes] at en1
  cases en1
  have en1 := hes
  have g : Gr (own p A (L.map (·.2))) H (upd H A.en (.lst (es0 ++ [v]))) := Gr.mut en1 (fun _ z => by cases z) (by simp [own])
  exact ⟨⟨⟨dx', by rw [upd_ne p1]; exact ob⟩, ⟨gs, g.tup _ _ gu1, gu2.gr g⟩, ⟨_, upd_same, by rw [List.map_append]; exact pr_append (en2.gr g) (.cons (hv.gr g) .nil)⟩, by rw [upd_ne (Ne.symm e1)]; exact go, by rw [upd_ne (Ne.symm e2)]; exact si, by rw [upd_ne (Ne.symm e3)]; exact se, by rw [upd_ne (Ne.symm e4)]; exact ta, pr_on td fun q hq t ht => ⟨ht.1, by rw [upd_ne (fun z => e6 (by rw [← z]; exact List.mem_map.mpr ⟨q, hq, rfl⟩))]; exact ht.2⟩, ⟨cs, by rw [upd_ne (Ne.symm e5)]; exact co1, co2.gr g⟩, knn, ndd⟩, g⟩
theorem LogAt.addCo (h : LogAt C H p A L s) {cs0 : List V} (hcs : H A.co = some (.lst cs0)) {v : V} {c : Int × List (Str × Int)} (hv : IsCp H v c) :
    LogAt C (upd H A.co (.lst (cs0 ++ [v]))) p A L { s with copies := s.copies ++ [c] } ∧ Gr (own p A (L.map (·.2))) H (upd H A.co (.lst (cs0 ++ [v]))) := by
  have nd := h.nd
  simp only [own, List.nodup_cons, List.mem_cons, not_or] at nd
  obtain ⟨⟨p1, p2, p3, p4, p5, p6, p7⟩, ⟨e1, e2, e3, e4, e5, e6⟩, ⟨g1, g2, g3, g4, g5⟩, ⟨s1, s2, s3, s4⟩, ⟨b1, b2, b3⟩, ⟨t1, t2⟩, c1, an⟩ := nd
  obtain ⟨⟨dx', ob⟩, ⟨gs, gu1, gu2⟩, ⟨es, en1, en2⟩, go, si, se, ta, td, ⟨cs, co1, co2⟩, knn, ndd⟩ := h
  rw [hcs] at co1
  cases co1
  have co1 := hcs
  have g : Gr (own p A (L.map (·.2))) H (upd H A.co (.lst (cs0 ++ [v]))) := Gr.mut co1 (fun _ z => by cases z) (by simp [own])
  exact ⟨⟨⟨dx', by rw [upd_ne p6]; exact ob⟩, ⟨gs, g.tup _ _ gu1, gu2.gr g⟩, ⟨es, by rw [upd_ne e5]; exact en1, en2.gr g⟩, by rw [upd_ne g4]; exact go, by rw [upd_ne s3]; exact si, by rw [upd_ne b2]; exact se, by rw [upd_ne t1]; exact ta, pr_on td fun q hq t ht => ⟨ht.1, by rw [upd_ne (fun z => c1 (by rw [← z]; exact List.mem_map.mpr ⟨q, hq, rfl⟩))]; exact ht.2⟩, ⟨_, upd_same, pr_append (co2.gr g) (.cons (hv.gr g) .nil)⟩, knn, ndd⟩, g⟩
theorem put_nd {r : Int} {d : Addr} : ∀ {L : List (Int × Addr)}, (L.map (·.1)).Nodup → (L.map (·.2)).Nodup → d ∉ L.map (·.2) → ((L.map fun p => if p.1 = r then (p.1, d) else p).map (·.2)).Nodup ∧ ∀ x ∈ (L.map fun p => if p.1 = r then (p.1, d) else p).map (·.2), (x = d ∧ r ∈ L.map (·.1)) ∨ x ∈ L.map (·.2)
  | [], _, _, _ => ⟨.nil, by simp⟩
  | q :: L, h1, h2, h3 => by
    rw [List.map_cons, List.nodup_cons] at h1 h2
    rw [List.map_cons, List.mem_cons, not_or] at h3
    obtain ⟨i1, i2⟩ := put_nd (r := r) h1.2 h2.2 h3.2
    by_cases e : q.1 = r
    · have e2 : (L.map fun p => if p.1 = r then (p.1, d) else p) = L := by
        refine (List.map_congr_left fun x hx => ?_).trans (List.map_id L)
        have : ¬ x.1 = r := fun z => h1.1 (by rw [e, ← z]; exact List.mem_map.mpr ⟨x, hx, rfl⟩)
        simp [this]
      rw [List.map_cons, if_pos e, e2]
      refine ⟨List.nodup_cons.mpr ⟨h3.2, h2.2⟩, fun x hx => ?_⟩
      rcases List.mem_cons.mp hx with z | z
      · exact .inl ⟨z, by simp [e]⟩
      · exact .inr (by simp only [List.map_cons, List.mem_cons]; exact .inr z)
    · rw [List.map_cons, if_neg e, List.map_cons]
      refine ⟨List.nodup_cons.mpr ⟨fun hm => ?_, i1⟩, fun x hx => ?_⟩
      · rcases i2 _ hm with ⟨z, _⟩ | z
        · exact h3.1 z.symm
        · exact h2.1 z
      · rcases List.mem_cons.mp hx with z | z
        · exact .inr (by simp [z])
        · rcases i2 _ z with ⟨z, k⟩ | z
          · exact .inl ⟨z, by simp only [List.map_cons, List.mem_cons]; exact .inr k⟩
          · exact .inr (by simp only [List.map_cons, List.mem_cons]; exact .inr z)
theorem put_keys {α β : Type} [DecidableEq α] (l : List (α × β)) (a : α) (b : β) (h : (l.map (·.1)).Nodup) : ((putA l a b).map (·.1)).Nodup := by
  unfold putA
  split
  · rw [List.map_map, show ((fun x : α × β => x.1) ∘ fun p => if p.1 = a then (p.1, b) else p) = fun p => p.1 from funext fun p => by simp only [Function.comp]; split <;> rfl]
    exact h
  · rename_i hn
    rw [List.map_append]
    refine List.nodup_append.mpr ⟨h, by simp, fun x hx y hy => ?_⟩
    simp only [List.map_cons, List.map_nil, List.mem_singleton] at hy
    subst hy
    intro e
    subst e
    obtain ⟨q, hq, e⟩ := List.mem_map.mp hx
    exact hn (List.any_eq_true.mpr ⟨q, hq, by simp [e]⟩)
theorem pr_any {G : Int × Addr → Int × List (Str × Int) → Prop} (hk : ∀ q t, G q t → q.1 = t.1) (r : Int) : ∀ {L : List (Int × Addr)} {T : List (Int × List (Str × Int))}, Paired G L T → (L.any fun p => decide (p.1 = r)) = T.any fun p => decide (p.1 = r)
  | _, _, .nil => rfl
  | _, _, .cons h t => by rw [List.any_cons, List.any_cons, hk _ _ h, pr_any hk r t]
theorem pr_map {α β α' β' : Type} {G : α → β → Prop} {G' : α' → β' → Prop} {f : α → α'} {g : β → β'} : ∀ {L : List α} {T : List β}, Paired G L T → (∀ q ∈ L, ∀ t, G q t → G' (f q) (g t)) → Paired G' (L.map f) (T.map g)
  | _, _, .nil, _ => .nil
  | _, _, .cons h t, k => .cons (k _ (by simp) _ h) (pr_map t fun q hq => k q (by simp [hq]))
theorem pr_put {G G' : Int × Addr → Int × List (Str × Int) → Prop} (hk : ∀ q t, G q t → q.1 = t.1) {r : Int} {d : Addr} {x : List (Str × Int)} {L : List (Int × Addr)} {T : List (Int × List (Str × Int))} (h : Paired G L T) (hn : G' (r, d) (r, x)) (hG : ∀ q ∈ L, ∀ t, G q t → ¬ q.1 = r → G' q t) :
    Paired G' (putA L r d) (putA T r x) := by
  unfold putA
  rw [pr_any hk r h]
  split
  · refine pr_map h fun q hq t ht => ?_
    have e := hk _ _ ht
    by_cases z : q.1 = r
    · rw [if_pos z, if_pos (e ▸ z), ← e, z]
      exact hn
    · rw [if_neg z, if_neg (e ▸ z)]
      exact hG q hq t ht z
  · rename_i no
    rw [← pr_any hk r h] at no
    refine pr_append (pr_on h fun q hq t ht => hG q hq t ht fun z => no (List.any_eq_true.mpr ⟨q, hq, decide_eq_true z⟩)) (.cons hn .nil)
/-- a bare table for a reader -/
theorem LogAt.newTab (h : LogAt C H p A L s) (r : Int) {d : Addr} {tb : List (Str × Int)} (hd : H d = some (.dK (tabV tb))) (nd' : d ∉ own p A (L.map (·.2))) :
    LogAt C (upd H A.ta (.dK (tabsV (putA L r d)))) p A (putA L r d) { s with tabs := putA s.tabs r tb } ∧ Gr (own p A (L.map (·.2))) H (upd H A.ta (.dK (tabsV (putA L r d)))) ∧ ∀ x ∈ own p A ((putA L r d).map (·.2)), x = d ∨ x ∈ own p A (L.map (·.2)) := by
  have nd := h.nd
  simp only [own, List.nodup_cons, List.mem_cons, not_or] at nd nd'
  obtain ⟨⟨p1, p2, p3, p4, p5, p6, p7⟩, ⟨e1, e2, e3, e4, e5, e6⟩, ⟨g1, g2, g3, g4, g5⟩, ⟨s1, s2, s3, s4⟩, ⟨b1, b2, b3⟩, ⟨t1, t2⟩, c1, an⟩ := nd
  obtain ⟨d0, d1, d2, d3, d4, d5, d6, d7⟩ := nd'
  obtain ⟨⟨dx', ob⟩, ⟨gs, gu1, gu2⟩, ⟨es, en1, en2⟩, go, si, se, ta, td, ⟨cs, co1, co2⟩, knn, ndd⟩ := h
  have g : Gr (own p A (L.map (·.2))) H (upd H A.ta (.dK (tabsV (putA L r d)))) := Gr.mut ta (fun _ z => by cases z) (by simp [own])
  have sub : ∀ x ∈ (putA L r d).map (·.2), x = d ∨ x ∈ L.map (·.2) := fun x hx => by
    unfold putA at hx
    split at hx
    · rcases (put_nd (r := r) knn an d7).2 x hx with z | z
      · exact .inl z.1
      · exact .inr z
    · rw [List.map_append] at hx
      rcases List.mem_append.mp hx with z | z
      · exact .inr z
      · exact .inl (by simpa using z)
  have nds : ((putA L r d).map (·.2)).Nodup := by
    unfold putA
    split
    · exact (put_nd (r := r) knn an d7).1
    · rw [List.map_append]
      exact List.nodup_append.mpr ⟨an, by simp, fun x hx y hy => by
        simp only [List.map_cons, List.map_nil, List.mem_singleton] at hy
        intro e
        exact d7 (by rw [← hy, ← e]; exact hx)⟩
  have off : ∀ {y : Addr}, ¬ d = y → y ∉ L.map (·.2) → y ∉ (putA L r d).map (·.2) := fun h1 h2 hm => (sub _ hm).elim (fun z => h1 z.symm) h2
  refine ⟨⟨⟨dx', by rw [upd_ne p5]; exact ob⟩, ⟨gs, g.tup _ _ gu1, gu2.gr g⟩, ⟨es, by rw [upd_ne e4]; exact en1, en2.gr g⟩, by rw [upd_ne g3]; exact go, by rw [upd_ne s2]; exact si, by rw [upd_ne b1]; exact se, upd_same,
    pr_put (fun _ _ z => z.1) td ⟨rfl, by rw [upd_ne d5]; exact hd⟩ fun q hq t ht _ => ⟨ht.1, by rw [upd_ne (fun z => t2 (by rw [← z]; exact List.mem_map.mpr ⟨q, hq, rfl⟩))]; exact ht.2⟩,
    ⟨cs, by rw [upd_ne (Ne.symm t1)]; exact co1, co2.gr g⟩, put_keys _ _ _ knn, ?_⟩, g, fun x hx => ?_⟩
  · simp only [own, List.nodup_cons, List.mem_cons, not_or]
    exact ⟨⟨p1, p2, p3, p4, p5, p6, off d0 p7⟩, ⟨e1, e2, e3, e4, e5, off d1 e6⟩, ⟨g1, g2, g3, g4, off d2 g5⟩, ⟨s1, s2, s3, off d3 s4⟩, ⟨b1, b2, off d4 b3⟩, ⟨t1, off d5 t2⟩, off d6 c1, nds⟩
  · simp only [own, List.mem_cons] at hx ⊢
    rcases hx with z | z | z | z | z | z | z | z
    · exact .inr (.inl z)
    · exact .inr (.inr (.inl z))
    · exact .inr (.inr (.inr (.inl z)))
    · exact .inr (.inr (.inr (.inr (.inl z))))
    · exact .inr (.inr (.inr (.inr (.inr (.inl z)))))
    · exact .inr (.inr (.inr (.inr (.inr (.inr (.inl z))))))
    · exact .inr (.inr (.inr (.inr (.inr (.inr (.inr (.inl z)))))))
    · rcases sub _ z with z | z
      · exact .inl z
      · exact .inr (.inr (.inr (.inr (.inr (.inr (.inr (.inr z)))))))
theorem same_of {α : Type} {f : Int × Addr → α} : ∀ {l : List (Int × Addr)} {x y : Int × Addr}, (l.map f).Nodup → x ∈ l → y ∈ l → f x = f y → x = y
  | [], _, _, _, h, _, _ => by cases h
  | z :: l, x, y, hk, hx, hy, e => by
    rw [List.map_cons, List.nodup_cons] at hk
    rcases List.mem_cons.mp hx with h1 | h1 <;> rcases List.mem_cons.mp hy with h2 | h2
    · rw [h1, h2]
    · exact (hk.1 (by rw [← h1, e]; exact List.mem_map.mpr ⟨y, h2, rfl⟩)).elim
    · exact (hk.1 (by rw [← h2, ← e]; exact List.mem_map.mpr ⟨x, h1, rfl⟩)).elim
    · exact same_of hk.2 h1 h2 e
theorem put_id {l : List (Int × Addr)} {r : Int} {a : Addr} (hk : (l.map (·.1)).Nodup) (h : (r, a) ∈ l) : putA l r a = l := by
  unfold putA
  rw [if_pos (List.any_eq_true.mpr ⟨_, h, by simp⟩)]
  refine (List.map_congr_left fun x hx => ?_).trans (List.map_id l)
  by_cases e : x.1 = r
  · rw [if_pos e, same_of hk hx h e]
    rfl
  · rw [if_neg e]
    rfl
/-- a reader's table changes where it stands -/
theorem LogAt.setTab (h : LogAt C H p A L s) {r : Int} {a : Addr} (hm : (r, a) ∈ L) (tb : List (Str × Int)) :
    LogAt C (upd H a (.dK (tabV tb))) p A L { s with tabs := putA s.tabs r tb } ∧ Gr (own p A (L.map (·.2))) H (upd H a (.dK (tabV tb))) := by
  have nd := h.nd
  simp only [own, List.nodup_cons, List.mem_cons, not_or] at nd
  obtain ⟨⟨p1, p2, p3, p4, p5, p6, p7⟩, ⟨e1, e2, e3, e4, e5, e6⟩, ⟨g1, g2, g3, g4, g5⟩, ⟨s1, s2, s3, s4⟩, ⟨b1, b2, b3⟩, ⟨t1, t2⟩, c1, an⟩ := nd
  obtain ⟨⟨dx', ob⟩, ⟨gs, gu1, gu2⟩, ⟨es, en1, en2⟩, go, si, se, ta, td, ⟨cs, co1, co2⟩, knn, ndd⟩ := h
  have am : a ∈ L.map (·.2) := List.mem_map.mpr ⟨_, hm, rfl⟩
  have off : ∀ {y : Addr}, y ∉ L.map (·.2) → y ≠ a := fun h e => h (by rw [e]; exact am)
  obtain ⟨tt, _, htt⟩ := mem_of_pr td hm
  have g : Gr (own p A (L.map (·.2))) H (upd H a (.dK (tabV tb))) := Gr.mut htt.2 (fun _ z => by cases z) (List.mem_append_right [p, A.en, A.go, A.si, A.se, A.ta, A.co] am)
  have td2 : Paired (fun (q : Int × Addr) (t : Int × List (Str × Int)) => q.1 = t.1 ∧ upd H a (.dK (tabV tb)) q.2 = some (.dK (tabV t.2))) (putA L r a) (putA s.tabs r tb) :=
    pr_put (fun _ _ z => z.1) td ⟨rfl, upd_same⟩ fun q hq t ht hr => ⟨ht.1, by
      rw [upd_ne]
      · exact ht.2
      · intro e
        exact hr (by rw [same_of an hq hm e])⟩
  rw [put_id knn hm] at td2
  exact ⟨⟨⟨dx', by rw [upd_ne (off p7)]; exact ob⟩, ⟨gs, g.tup _ _ gu1, gu2.gr g⟩, ⟨es, by rw [upd_ne (off e6)]; exact en1, en2.gr g⟩, by rw [upd_ne (off g5)]; exact go, by rw [upd_ne (off s4)]; exact si, by rw [upd_ne (off b3)]; exact se, by rw [upd_ne (off t2)]; exact ta, td2,
    ⟨cs, by rw [upd_ne (off c1)]; exact co1, co2.gr g⟩, knn, ndd⟩, g⟩
end
theorem sq_le {n m : Nat} (l : n ≤ m) : n * n ≤ m * m := Nat.mul_le_mul l l
theorem put_get {α β : Type} [DecidableEq α] {r : α} {b : β} : ∀ {l : List (α × β)}, (l.map (·.1)).Nodup → getA l r = some b → putA l r b = l
  | [], _, h => by cases h
  | p :: l, hk, h => by
    rw [List.map_cons, List.nodup_cons] at hk
    by_cases e : p.1 = r
    · have hb : p.2 = b := by simpa [getA, List.find?_cons, e] using h
      unfold putA
      rw [if_pos (by simp [e]), List.map_cons, if_pos e]
      have e2 : (l.map fun q => if q.1 = r then (q.1, b) else q) = l := by
        refine (List.map_congr_left fun x hx => ?_).trans (List.map_id l)
        have : ¬ x.1 = r := fun z => hk.1 (by rw [e, ← z]; exact List.mem_map.mpr ⟨x, hx, rfl⟩)
        simp [this]
      rw [e2, ← hb]
    · have h2 : getA l r = some b := by simpa [getA, List.find?_cons, e] using h
      have ih := put_get hk.2 h2
      have any : (l.any fun p => decide (p.1 = r)) = true := by
        unfold getA at h2
        cases q : l.find? (fun p => decide (p.1 = r)) with
        | none => rw [q] at h2; cases h2
        | some y =>
          have hy := List.find?_some (p := fun p : α × β => decide (p.1 = r)) q
          exact List.any_eq_true.mpr ⟨y, List.mem_of_find?_eq_some q, hy⟩
      unfold putA at ih ⊢
      rw [if_pos any] at ih
      rw [if_pos (by simp [any]), List.map_cons, if_neg e, ih]
theorem td_get {H : Hp} {r : Int} {tb : List (Str × Int)} : ∀ {L : List (Int × Addr)} {T : List (Int × List (Str × Int))}, Paired (fun q t => q.1 = t.1 ∧ H q.2 = some (.dK (tabV t.2))) L T → getA T r = some tb → ∃ a, getA L r = some a ∧ H a = some (.dK (tabV tb))
  | _, _, .nil, h => by cases h
  | q :: L, t :: T, .cons h k, e => by
    by_cases z : t.1 = r
    · have hb : t.2 = tb := by simpa [getA, List.find?_cons, z] using e
      exact ⟨q.2, by simp [getA, List.find?_cons, h.1, z], by rw [← hb]; exact h.2⟩
    · have e2 : getA T r = some tb := by simpa [getA, List.find?_cons, z] using e
      obtain ⟨a, h1, h2⟩ := td_get k e2
      have z2 : ¬ q.1 = r := by rw [h.1]; exact z
      exact ⟨a, by rw [← h1]; simp [getA, List.find?_cons, z2], h2⟩
theorem td_keys {H : Hp} : ∀ {L : List (Int × Addr)} {T : List (Int × List (Str × Int))}, Paired (fun q t => q.1 = t.1 ∧ H q.2 = some (.dK (tabV t.2))) L T → L.map (·.1) = T.map (·.1)
  | _, _, .nil => rfl
  | _, _, .cons h k => by rw [List.map_cons, List.map_cons, h.1, td_keys k]
theorem map_put_id {α β : Type} [DecidableEq α] {l : List (α × β)} {a : α} (c : β) (h : ¬ (l.any fun p => decide (p.1 = a)) = true) : (l.map fun p => if p.1 = a then (p.1, c) else p) = l := by
  refine (List.map_congr_left fun x hx => ?_).trans (List.map_id l)
  have : ¬ x.1 = a := fun z => h (List.any_eq_true.mpr ⟨x, hx, decide_eq_true z⟩)
  simp [this]
theorem getA_map {α β : Type} [DecidableEq α] {a : α} {b : β} : ∀ {l : List (α × β)}, (l.any fun p => decide (p.1 = a)) = true → getA (l.map fun p => if p.1 = a then (p.1, b) else p) a = some b
  | [], h => by simp at h
  | p :: l, h => by
    by_cases e : p.1 = a
    · simp [getA, List.find?_cons, e]
    · have h2 : (l.any fun p => decide (p.1 = a)) = true := by simpa [e] using h
      have ih := getA_map (b := b) h2
      rw [List.map_cons, if_neg e]
      unfold getA at ih ⊢
      rw [List.find?_cons, show decide (p.1 = a) = false from decide_eq_false e]
      exact ih
theorem getA_put {α β : Type} [DecidableEq α] (l : List (α × β)) (a : α) (b : β) : getA (putA l a b) a = some b := by
  unfold putA
  by_cases h : (l.any fun p => decide (p.1 = a)) = true
  · rw [if_pos h]
    exact getA_map h
  · rw [if_neg h]
    have n : l.find? (fun p => decide (p.1 = a)) = none := List.find?_eq_none.mpr fun x hx z => h (List.any_eq_true.mpr ⟨x, hx, z⟩)
    unfold getA
    rw [List.find?_append, n]
    simp
theorem put_put {α β : Type} [DecidableEq α] (l : List (α × β)) (a : α) (b c : β) : putA (putA l a b) a c = putA l a c := by
  by_cases h : (l.any fun p => decide (p.1 = a)) = true
  · have e : putA l a b = l.map fun p => if p.1 = a then (p.1, b) else p := by unfold putA; rw [if_pos h]
    have e2 : putA l a c = l.map fun p => if p.1 = a then (p.1, c) else p := by unfold putA; rw [if_pos h]
    rw [e, e2]
    unfold putA
    rw [if_pos, List.map_map]
    · refine List.map_congr_left fun x _ => ?_
      show (if (if x.1 = a then (x.1, b) else x).1 = a then ((if x.1 = a then (x.1, b) else x).1, c) else (if x.1 = a then (x.1, b) else x)) = _
      by_cases z : x.1 = a
      · rw [if_pos z]
        simp [z]
      · rw [if_neg z]
    · obtain ⟨x, hx, z⟩ := List.any_eq_true.mp h
      refine List.any_eq_true.mpr ⟨_, List.mem_map.mpr ⟨x, hx, rfl⟩, ?_⟩
      have z := of_decide_eq_true z
      simp [z]
  · have e : putA l a b = l ++ [(a, b)] := by unfold putA; rw [if_neg h]
    have e2 : putA l a c = l ++ [(a, c)] := by unfold putA; rw [if_neg h]
    rw [e, e2]
    unfold putA
    rw [if_pos (by simp), List.map_append, map_put_id c h]
    simp
end PK

set_option Elab.async false
set_option linter.all false
set_option maxRecDepth 100000
set_option maxHeartbeats 2000000
/-! lists where the document lets a list stand for a tuple: taken apart, matched. -/
namespace PK
open PySem L2 PyProof.Rows
section
variable {prog : Program} {w : World} {A : Around} {E : Value → Shared → Prop}
/-- all that is left of a list's walk, at once -/
theorem draw_rest {it l : Addr} {items : Array Value} (d : l ≠ it) : ∀ (xs pre : List Value) (s : Shared) (Q : List Value → Shared → Prop), items.toList = pre ++ xs → s.heap.IsListIter it l pre.length → s.heap.IsList l items →
    (∀ h', h'.IsListIter it l items.size → Heap.SameBut it s.heap h' → Q xs { s with heap := h' }) → wpAny (model prog w) A (draw (.ref it) xs.length) Q E s
  | [], pre, s, Q, e, hit, _, k => by
    have z : items.size = pre.length := by rw [← Array.length_toList, e, List.append_nil]
    exact wpAny_pure (k s.heap (by rw [z]; exact hit) (Heap.SameBut.refl ..))
  | x :: xs, pre, s, Q, e, hit, hl, k => by
    have hx : items[pre.length]? = some x := by rw [← Array.getElem?_toList, e, List.getElem?_append_right (Nat.le_refl _), Nat.sub_self]; rfl
    show wpAny _ _ (pyNext (.ref it) >>= _) Q E s
    refine wpAny_bind (wpAny_pyNext_list_item hit hl hx fun h1 i1 b1 => ?_)
    have e' : items.toList = (pre ++ [x]) ++ xs := by rw [e, List.append_assoc]; rfl
    have i1' : h1.IsListIter it l (pre ++ [x]).length := by rw [List.length_append]; exact i1
    exact wpAny_bind (wpAny_holding (draw_rest d xs (pre ++ [x]) _ _ e' i1' (hl.extBut b1.extBut d) fun h2 i2 b2 => wpAny_pure (k h2 i2 (b1.trans b2))))
theorem unpack_lst {l : Addr} {its : List Value} {s : Shared} {Q : List Value → Shared → Prop} (hh : A.handled = none) (hl : s.heap.IsList l its.toArray)
    (k : ∀ h', Heap.ExtBut s.heap.objs.size s.heap h' → Q its { s with heap := h' }) : wpAny (model prog w) A (unpackItems (.ref l) its.length none) Q E s := by
  have d : l ≠ s.heap.objs.size := Nat.ne_of_lt (Heap.lt_size (show s.heap.get? l = some _ from hl.choose_spec.1))
  unfold unpackItems
  refine wpAny_bind ?_
  unfold notIterableAtAll
  refine wpAny_bind (wpAny_specialOf hl.typeIs slot_list_iter.lookup (wpAny_pure ?_))
  simp only [Bool.false_eq_true, if_false]
  refine wpAny_bind (wpAny_holding (wpAny_pyIter_list hl ?_))
  refine wpAny_bind (wpAny_holding (draw_rest (items := its.toArray) d its [] _ _ rfl ⟨_, Heap.get?_push_size _ rfl, rfl, rfl⟩ (hl.push _) fun h1 i1 b1 => ?_))
  rw [if_neg (Nat.lt_irrefl _)]
  refine wpAny_bind (wpAny_holding (wpAny_pyNext_list_end hh i1 ((hl.push _).extBut b1.extBut d) (by simp) fun h2 b2 => ?_))
  simp only [Option.isSome_none, Bool.false_eq_true, if_false]
  exact wpAny_pure (k h2 fun b o hb e => b2 b o hb (b1.extBut b o hb (Heap.get?_push_of_some _ e)))
end
section
variable {X : Cx} {pos : Pos}
theorem isList_of {h : Heap} {a : Addr} {xs : Array Value} (p : PlainL h a xs) : h.IsList a xs := by
  obtain ⟨o, n, e, c, _, d⟩ := p
  exact ⟨o, e, c, n, d⟩
/-- names in a row, of a list or a tuple -/
def gSeq (K : PySem.W.Frag) (n : Nat) (t : TGs) : TG := fun v σ H Q => ∃ a xs, v = .ref a ∧ (SqL K H a xs ∨ SqT K H a xs) ∧ xs.length = n ∧ t xs σ H Q
theorem pg_seq {es : List Expr} {k : Nat} {t : TGs} {n : Nat} (hc : X.calm = true) (h : PGs X es t)
    (hn : (assignEach es X.env).length = n := by rfl) (hst : (assignEach es X.env).findIdx? (·.1) = none := by rfl) : PG X (.Tuple es k pos) (gSeq X.K n t) := by
  refine ⟨fun pins s σ H v u Q I r hw => ?_⟩
  obtain ⟨a, xs, rfl, hq | hq, hl, hw⟩ := hw
  · cases r
    obtain ⟨its, rv, hp, _⟩ := I.list hq
    have hi : (assignEach es X.env).length = its.length := by rw [hn, ← hl, rv.length]
    rw [assign_Tuple]
    refine wpAny_bind (wpAny_standAt ?_)
    unfold unpack
    rw [hi, hst]
    refine wpAny_bind (wpAny_holding (unpack_lst (I.ok.hd hc) (isList_of hp) fun h' hx => ?_))
    have I1 : Inv X pins σ H { s with heap := h' } := I.kept (t' := s.toks) fun b o e => hx b o (Nat.ne_of_lt (Heap.lt_size e)) e
    exact h.run pins _ σ H xs _ Q I1 rv hw
  · exact (pg_tup hc h hn hst).run pins s σ H _ _ Q I r ⟨a, xs, rfl, hq, hl, hw⟩
/-- a word and names, of a list or a tuple -/
def cWordS (K : PySem.W.Frag) (r : R2) (w : Str) (g : List (Option Nat)) (t : TS) (tc : TC) : TC := fun v D σ H => ∃ a xs, v = .ref a ∧ (SqL K H a xs ∨ SqT K H a xs) ∧
  (if xs.length = g.length + 1 then ∀ x ys, xs = x :: ys → r x (.str w) H fun z H1 => ∃ c, z = .bl c ∧ if c = true then t D (gCaps g ys σ) H1 else tc v D σ H1 else tc v D σ H)
theorem pcs_wordS {w : Str} {ps : List Pattern} {g : List (Option Nat)} {body : List Stmt} {rest : List MatchCase} {t : TS} {tc : TC} {r : R2} {j : Nat} {p1 p2 p3 : Pos} (hN : X.N.Nodup) (hc : X.calm = true) (ho : OpR X (compareOp .Eq) r) (h1 : Caps X ps g) (h2 : PSs X body t) (h3 : PCs X rest tc) :
    PCs X (⟨.MatchSequence (.MatchValue (.Constant (.str w) j p1) p2 :: ps) p3, none, body⟩ :: rest) (cWordS X.K r w g t tc) := by
  refine ⟨fun pins s σ H v u first D I rv h => ?_⟩
  obtain ⟨a, xs, rfl, hq | hq, h⟩ := h
  · cases rv
    obtain ⟨its, rv, hp, hz⟩ := I.list hq
    have ht := isList_of hp
    have hfit : (its.toArray.size : Int) < 2 ^ 63 := by
      have e1 := rv.length
      have e2 : sizeLine < 2 ^ 63 := by decide
      simp only [List.size_toArray]
      omega
    have hgl := h1.length
    have hl := rv.length
    have hst : ((Pattern.MatchValue (.Constant (.str w) j p1) p2) :: ps).findIdx? (·.isStar) = none := by rw [List.findIdx?_cons, h1.noStar]; rfl
    have hwd : (((Pattern.MatchValue (.Constant (.str w) j p1) p2) :: ps).all fun p => p.isWildcard || (p.isStar && p.names.isEmpty)) = false := by rw [List.all_cons]; rfl
    refine wpAny_matchCases_cons ?_
    by_cases hn : xs.length = g.length + 1
    · rw [if_pos hn] at h
      refine matchSeq_list_hit ht hfit (by simp only [List.size_toArray, List.length_cons]; omega) ?_ hst hwd
      rw [show (Pattern.MatchValue (.Constant (.str w) j p1) p2 :: ps).length = its.length from by rw [List.length_cons]; omega]
      refine unpack_lst (I.ok.hd hc) ht fun h' hx => ?_
      have I1 : Inv X pins σ H { s with heap := h', toks := s.toks + 1 + 1 } := I.kept (t' := s.toks + 1 + 1) fun b o e => hx b o (Nat.ne_of_lt (Heap.lt_size e)) e
      cases rv with
      | nil => simp at hn
      | cons rx ry =>
        rename_i x u1 ys us
        refine wpAny_matchEach_cons (wpAny_matchPattern_Value (Calls.Constant_str ?_))
        refine thn (ho pins _ σ H x (.str w) u1 _ _ (I1.tok _) rx ⟨_, rfl⟩ (h x ys rfl)) fun c s2 ⟨z, H1, I2, rz, c', e, q⟩ => ?_
        subst e
        cases rz
        refine wpAny_truthy_bool ?_
        have hl2 : us.length = ps.length := by simp only [List.length_cons] at hl hn; omega
        cases c' with
        | true =>
          rw [if_pos rfl] at q
          exact h1.each hl2 (h1.store hN ry hl2 I2 fun s3 I3 => h2.run pins s3 _ H1 D I3 q)
        | false =>
          rw [if_neg (by decide)] at q
          exact h3.run pins s2 σ H1 (.ref a) _ _ D I2 rfl q
    · rw [if_neg hn] at h
      refine matchSeq_list_miss ht hfit (by simp only [List.size_toArray, List.length_cons]; omega) ?_ hst hwd
      exact h3.run pins _ σ H (.ref a) _ _ D (I.tok _) rfl h
  · refine (pcs_word hN hc ho h1 h2 h3).run pins s σ H _ u first D I rv ⟨a, xs, rfl, hq, h⟩
end
end PK

set_option Elab.async false
set_option linter.all false
set_option maxRecDepth 100000
set_option maxHeartbeats 2000000
/-! sorted(d.items()): a dict of texts and whole numbers, by its keys. -/
namespace PK
open PySem L2 PyProof.Rows
def ltS (a b : Str) : Bool := decide (a.cps.toList < b.cps.toList)
theorem ltS_self (a : Str) : ltS a a = false := decide_eq_false (List.lt_irrefl _)
theorem ltS_asym {a b : Str} (h : ltS a b = true) : ltS b a = false := decide_eq_false (List.lt_asymm (of_decide_eq_true h))
theorem ltS_no {a b : Str} : ltS a b = false ↔ b.cps.toList ≤ a.cps.toList := by
  unfold ltS
  rw [decide_eq_false_iff_not]
  exact List.not_lt
theorem ltS_tr {a b c : Str} (h1 : ltS b a = false) (h2 : ltS c b = false) : ltS c a = false := ltS_no.mpr (List.le_trans (ltS_no.mp h1) (ltS_no.mp h2))
theorem ltS_eq {a b : Str} (h1 : ltS a b = false) (h2 : ltS b a = false) : a = b := by
  have e := List.le_antisymm (ltS_no.mp h2) (ltS_no.mp h1)
  obtain ⟨⟨x⟩⟩ := a
  obtain ⟨⟨y⟩⟩ := b
  exact congrArg Str.mk (congrArg Array.mk e)
/-- the text of the pair at v -/
def txAt (h : Heap) (v : Value) : Str := DT.txOf (DT.seqAt0 h (DT.refOf (some v)))
/-- v is the pair of this text and this number -/
def PrS (h : Heap) (v : Value) (x : Str) (y : Int) : Prop := ∃ (a : Addr) (t u : Tok), v = .ref a ∧ IsTup h a #[.str x t, .int y u]
theorem PrS.tx {h : Heap} {v : Value} {x : Str} {y : Int} (p : PrS h v x y) : txAt h v = x := by
  obtain ⟨a, t, u, rfl, q⟩ := p
  unfold txAt
  rw [show DT.refOf (some (Value.ref a)) = a from rfl, DT.seqAt0_of q]
  rfl
theorem PrS.keep {h h' : Heap} {v : Value} {x : Str} {y : Int} (p : PrS h v x y) (k : ∀ b o, h.get? b = some o → o.cls = .type "tuple" → h'.get? b = some o) : PrS h' v x y := by
  obtain ⟨a, t, u, rfl, o, ho, hc, r⟩ := p
  exact ⟨a, t, u, rfl, o, k _ _ ho hc, hc, r⟩
section
variable {prog : Program} {w : World} {A : Around} {E : Value → Shared → Prop} {s : Shared}
theorem txt_cmp {vs : List Value} {f : Value → Str} (hp : ∀ v ∈ vs, ∃ y, PrS s.heap v (f v) y) (one : ∀ v ∈ vs, ∀ u ∈ vs, f v = f u → v = u) :
    SrtO.Cmp prog w A s (tuples' true) (fun p => p.1 ∈ vs) (SrtO.lt2 fun v u => ltS (f v) (f u)) := by
  intro p q hm hm'
  show wpAny (model prog w) A (keyLt' (tuples' true) p.1 q.1) (fun r s' => s' = s ∧ r = ltS (f p.1) (f q.1)) (fun _ _ => False) s
  obtain ⟨y, a, t, u, e, o, ho, hc, n, hd⟩ := hp _ hm
  obtain ⟨y', a', t', u', e', o', ho', hc', n', hd'⟩ := hp _ hm'
  have same := one _ hm _ hm'
  generalize f p.1 = x at *
  generalize f q.1 = x' at *
  rw [e, e'] at same
  rw [e, e']
  refine PySem.W.kat_lt ho hd ho' hd' ?_
  show PySem.W.KatLex prog w A true (decide (2 < 2)) _ [(.str x t, .str x' t'), (.int y u, .int y' u')] 0 s
  refine PySem.W.kat_cons (SeqAt.EqAt.str_str x t x' t' prog w _ _ ?_)
  refine PySem.W.kat_go (fun e1 => ?_) (fun e1 => ?_)
  · have ex : x = x' := by simpa using e1
    obtain rfl : a = a' := Value.ref.inj (same ex)
    rw [ho] at ho'
    obtain rfl := Option.some.inj ho'
    rw [hd] at hd'
    injection hd' with d1 _
    have d2 := congrArg Array.toList d1
    simp only [List.cons.injEq, Value.int.injEq] at d2
    obtain rfl : y = y' := d2.2.1.1
    refine PySem.W.kat_yes (PySem.W.kat_cons (SeqAt.EqAt.int_int y u y u' prog w _ _ ?_))
    refine PySem.W.kat_go (fun _ => PySem.W.kat_yes (PySem.W.kat_nil ⟨rfl, ?_⟩)) (fun e2 => absurd e2 (by simp))
    rw [← ex, ltS_self]
    rfl
  · exact PySem.W.kat_no (oneLt_str ⟨rfl, rfl⟩)
theorem txt_firsts {h : Heap} : ∀ vs : List Value, (∀ v ∈ vs, ∃ x y, PrS h v x y) → ∃ fs : List Value, PySem.W.KatTups h vs fs ∧ fs.length = vs.length ∧ ∀ f ∈ fs, ∃ x t, f = Value.str x t
  | [], _ => ⟨[], PySem.W.KatTups.nil, rfl, fun _ q => nomatch q⟩
  | v :: vs, hp => by
    obtain ⟨fs, h1, h2, h3⟩ := txt_firsts vs fun u q => hp u (List.mem_cons_of_mem _ q)
    obtain ⟨x, y, a, t, u, rfl, o, ho, hc, n, hd⟩ := hp v List.mem_cons_self
    refine ⟨.str x t :: fs, PySem.W.KatTups.cons ho hc hd rfl h1, by rw [List.length_cons, List.length_cons, h2], fun f q => ?_⟩
    rcases List.mem_cons.mp q with rfl | q
    · exact ⟨x, t, rfl⟩
    · exact h3 f q
theorem txt_sortable {a : Addr} {vs : List Value} {f : Value → Str} (h2 : 2 ≤ vs.length) (hp : ∀ v ∈ vs, ∃ y, PrS s.heap v (f v) y) (one : ∀ v ∈ vs, ∀ u ∈ vs, f v = f u → v = u) (ha : ∀ o, s.heap.get? a = some o → o.cls ≠ .type "tuple") :
    SrtO.SortableO prog w A s a vs fun v u => ltS (f v) (f u) := by
  intro h' keep
  have hp' : ∀ v ∈ vs, ∃ y, PrS h' v (f v) y := fun v q => by
    obtain ⟨y, z⟩ := hp v q
    exact ⟨y, z.keep fun b o e c => keep b o (fun i => by subst i; exact ha o e c) e⟩
  obtain ⟨fs, k1, k2, k3⟩ := txt_firsts vs fun v q => ⟨_, hp' v q⟩
  refine ⟨tuples' true, fun Q E hq => ?_, txt_cmp hp' one⟩
  refine PySem.W.kat_kind (T := .type "str") k1 (by omega) (fun f q => ?_) (by rfl) ?_
  · obtain ⟨x, t, rfl⟩ := k3 f q
    exact PySem.W.Looks.now
  · have e : (Value.type "str" != Value.type "tuple") = true := by first | decide +kernel | rfl | decide
    rw [e]
    exact hq
end
theorem swoS {α : Type} (f : α → Str) : SrtO.Swo fun v u => ltS (f v) (f u) := ⟨fun _ _ h => ltS_asym h, fun _ _ _ h1 h2 => ltS_tr h1 h2⟩
end PK

set_option Elab.async false
set_option linter.all false
set_option maxRecDepth 100000
set_option maxHeartbeats 2000000
namespace PK
open PySem L2 PyProof.Rows
section
variable {X : Cx}
abbrev txV (e : Str × Int) : Key × V := (Sum.inr e.1, V.int e.2)
def rItemsX : V → List V → Hp → VK → Prop := fun x xs H Q => ∃ (a : Addr) (l : List (Str × Int)), x = .ref a ∧ xs = [] ∧ H a = some (.dK (l.map txV)) ∧ ∀ p, H p = none → Q (.ref p) (upd H p (L2.DX.itemsO p a))
theorem dk_rows {P : Program} {w : World} : ∀ (l : List (Str × Int)) (vs : List (Key × Value)) (es : List DictEntry), KV (l.map txV) vs → Pairs (mixKind P w) es vs →
    vs.map (·.1) = l.map (fun p => Sum.inr p.1) ∧ es.length = l.length ∧ ∀ (j : Nat) (e : DictEntry), es[j]? = some e → ∃ (p : Str × Int) (t u : Tok), l[j]? = some p ∧ e.key = Value.str p.1 t ∧ e.val = Value.int p.2 u
  | [], vs, es, k, q => by
    cases k
    cases q
    exact ⟨rfl, rfl, fun j e h => by simp at h⟩
  | p :: l, vs, es, k, q => by
    cases k with
    | cons k1 k2 =>
      cases q with
      | cons q1 q2 q3 =>
        obtain ⟨e1, u, e2⟩ := k1
        obtain ⟨z1, z2, z3⟩ := dk_rows l _ _ k2 q3
        rw [← e1] at q1
        rcases keyIs_shape (show keyIs (Sum.inr p.1) _ = true from q1) with ⟨i, t, f, _⟩ | ⟨x, t, f, g⟩
        · cases f
        · refine ⟨by rw [List.map_cons, List.map_cons, z1, ← e1], by rw [List.length_cons, List.length_cons, z2], fun j e h => ?_⟩
          match j with
          | 0 =>
            obtain rfl := Option.some.inj h
            exact ⟨p, t, u, rfl, by rw [g, Sum.inr.inj f], by rw [q2, e2]⟩
          | j + 1 => exact z3 j e h
theorem dk_raw {H : Hp} {h : Heap} {a : Addr} {l : List (Str × Int)} {P : Program} {w : World} (ok : ObjOk P w H h a (.dK (l.map txV))) :
    (a == sysModules) = false ∧ l.length ≤ sizeLine ∧ (l.map (·.1)).Nodup ∧ ∃ es ep, DT.Raw h a es ep ∧ es.size = l.length ∧ ∀ (j : Nat) (e : DictEntry), es[j]? = some e → ∃ (p : Str × Int) (t u : Tok), l[j]? = some p ∧ e.key = Value.str p.1 t ∧ e.val = Value.int p.2 u := by
  obtain ⟨hz, hs, vs, kv, o, es, ep, ho, hx, hd, _, ps, nd⟩ := ok
  rw [List.length_map] at hz
  obtain ⟨z1, z2, z3⟩ := dk_rows l vs es.toList kv ps
  rw [z1] at nd
  refine ⟨hs, hz, ?_, es, ep, ⟨o, ho, hx, hd⟩, by rw [← z2, Array.length_toList], fun j e h => z3 j e (by rw [Array.getElem?_toList]; exact h)⟩
  unfold List.Nodup at nd ⊢
  rw [List.pairwise_map] at nd ⊢
  exact nd.imp fun h q => h (by rw [q])
theorem mt_itemsX : MtR X "dict.items" rItemsX := by
  intro pins s σ H x xs v us Q I rx rxs h
  obtain ⟨a, l, rfl, rfl, ha, q⟩ := h
  cases rx
  cases rxs
  obtain ⟨hd, _, _, es, ep, raw, _⟩ := dk_raw (I.hok _ _ ha)
  refine DT.callItems hd raw ⟨.ref s.heap.objs.size, upd H s.heap.objs.size (L2.DX.itemsO s.heap.objs.size a), I.laid (t' := s.toks) (fun b u e => Heap.get?_push_of_some _ e) (Nat.le_refl _) (L2.DX.itemsO_ok (Heap.get?_push_size _ rfl)), rfl, q _ (I.hok.fresh (Nat.le_refl _))⟩
/-- a row of pairs by its keys, one put in at its place at a time -/
def insS (e : Str × Int) : List (Str × Int) → List (Str × Int)
  | [] => [e]
  | f :: l => if ltS f.1 e.1 = true then f :: insS e l else e :: f :: l
def ordS (l : List (Str × Int)) : List (Str × Int) := l.foldr insS []
abbrev Srt (l : List (Str × Int)) : Prop := l.Pairwise fun e f => ltS f.1 e.1 = false
theorem insS_perm (e : Str × Int) : ∀ l : List (Str × Int), (insS e l).Perm (e :: l)
  | [] => List.Perm.refl _
  | f :: l => by
    unfold insS
    split
    · exact ((insS_perm e l).cons f).trans (List.Perm.swap ..)
    · exact List.Perm.refl _
theorem insS_srt (e : Str × Int) : ∀ {l : List (Str × Int)}, Srt l → Srt (insS e l)
  | [], _ => List.pairwise_singleton _ _
  | f :: l, h => by
    have h' := List.pairwise_cons.mp h
    unfold insS
    split
    · rename_i lt
      refine List.pairwise_cons.mpr ⟨fun g hg => ?_, insS_srt e h'.2⟩
      rcases List.mem_cons.mp ((insS_perm e l).mem_iff.mp hg) with rfl | hg
      · exact ltS_asym lt
      · exact h'.1 g hg
    · rename_i no
      have no' : ltS f.1 e.1 = false := by simpa using no
      refine List.pairwise_cons.mpr ⟨fun g hg => ?_, h⟩
      rcases List.mem_cons.mp hg with rfl | hg
      · exact no'
      · exact ltS_tr no' (h'.1 g hg)
theorem ordS_perm : ∀ l : List (Str × Int), (ordS l).Perm l
  | [] => List.Perm.refl _
  | e :: l => (insS_perm e (ordS l)).trans ((ordS_perm l).cons e)
theorem ordS_srt : ∀ l : List (Str × Int), Srt (ordS l)
  | [] => .nil
  | e :: l => insS_srt e (ordS_srt l)
theorem srt_one : ∀ {l m : List (Str × Int)}, Srt l → Srt m → l.Perm m → (l.map (·.1)).Nodup → l = m
  | [], m, _, _, p, _ => (List.Perm.eq_nil p.symm).symm
  | x :: l, [], _, _, p, _ => absurd p.length_eq (by simp)
  | x :: l, y :: m, hl, hm, p, nd => by
    have h1 := List.pairwise_cons.mp hl
    have h2 := List.pairwise_cons.mp hm
    rw [List.map_cons, List.nodup_cons] at nd
    have e : x = y := by
      rcases List.mem_cons.mp (p.mem_iff.mp (List.mem_cons_self (a := x) (l := l))) with e | hx
      · exact e
      · rcases List.mem_cons.mp (p.mem_iff.mpr (List.mem_cons_self (a := y) (l := m))) with e | hy
        · exact e.symm
        · exact absurd (List.mem_map.mpr ⟨y, hy, ltS_eq (h1.1 y hy) (h2.1 x hx)⟩) nd.1
    subst e
    rw [srt_one h1.2 h2.2 p.cons_inv nd.2]
theorem ordS_one {l m : List (Str × Int)} (s : Srt m) (p : m.Perm l) (nd : (l.map (·.1)).Nodup) : m = ordS l :=
  srt_one s (ordS_srt l) (p.trans (ordS_perm l).symm) ((p.map (·.1)).nodup_iff.mpr nd)
/-- by its keys, which are all different -/
def rSortX : List V → Hp → VK → Prop := fun vs H Q => ∃ (p a : Addr) (l : List (Str × Int)), vs = [.ref p] ∧ H p = some (L2.DX.itemsO p a) ∧ H a = some (.dK (l.map txV)) ∧
  ∀ (H' : Hp) (q : Addr) (xs : List V), Gr [] H H' → H q = none → H' q = some (.lst xs) → Tps H' xs ((ordS l).map fun e => [.str e.1, .int e.2]) → Q (.ref q) H'
theorem cr_sortedX (hc : X.calm = true) : CallR X (.builtin "sorted") rSortX := by
  intro pins s σ H xs us Q I r h
  obtain ⟨p, a, l, rfl, hp, ha, q⟩ := h
  obtain rfl := Vals.ref1 r
  have view : s.heap.IsItemsView p a := (show ObjOk X.prog X.w H s.heap p (L2.DX.itemsO p a) from I.hok p _ hp).1
  obtain ⟨_, hz, nd, es, ep, raw, hn, hes⟩ := dk_raw (I.hok _ _ ha)
  have hh : X.A.handled = none := I.ok.hd hc
  refine DT.sortedI hh view raw (by rw [hn]; exact hz) fun h' tk as hk hlt hl hG => ?_
  have lal : as.length = l.length := hl.trans hn
  have ndA : as.Nodup := List.Pairwise.imp (fun h => Nat.ne_of_lt h) hG.rise
  have pr : ∀ (j : Nat) (b : Addr), as[j]? = some b → ∃ e, l[j]? = some e ∧ PrS h' (.ref b) e.1 e.2 := by
    intro j b hj
    obtain ⟨en, he, hg⟩ := hG.pairs j b hj
    obtain ⟨e, t, u, e1, e2, e3⟩ := hes j en he
    refine ⟨e, e1, b, t, u, rfl, _, hg, rfl, 0, ?_⟩
    rw [e2, e3]
  have hob : (h'.push { cls := .type "list", data := .seq (as.map Value.ref).toArray }).get? h'.objs.size = some (seqObj "list" (as.map Value.ref).toArray 0) := Heap.get?_push_size _ rfl
  have ka : ∀ b o, h'.get? b = some o → (h'.push { cls := .type "list", data := .seq (as.map Value.ref).toArray }).get? b = some o := fun b o e => Heap.get?_push_of_some _ e
  have ne0 : ∀ b o, h'.get? b = some o → b ≠ h'.objs.size := fun b o e => Nat.ne_of_lt (Heap.lt_size e)
  generalize (h'.push { cls := .type "list", data := .seq (as.map Value.ref).toArray }) = h2 at *
  have pr2 : ∀ (j : Nat) (b : Addr), as[j]? = some b → ∃ e, l[j]? = some e ∧ PrS h2 (.ref b) e.1 e.2 := fun j b hj => by
    obtain ⟨e, e1, e2⟩ := pr j b hj
    exact ⟨e, e1, e2.keep fun b o e _ => ka b o e⟩
  have at_ : ∀ v ∈ as.map Value.ref, ∃ (j : Nat) (b : Addr) (e : Str × Int), v = .ref b ∧ as[j]? = some b ∧ l[j]? = some e ∧ PrS h2 (.ref b) e.1 e.2 := by
    intro v hv
    obtain ⟨b, hb, rfl⟩ := List.mem_map.mp hv
    obtain ⟨j, hj⟩ := List.mem_iff_getElem?.mp hb
    obtain ⟨e, he, pe⟩ := pr2 j b hj
    exact ⟨j, b, e, rfl, hj, he, pe⟩
  have hP : ∀ v ∈ as.map Value.ref, ∃ y, PrS h2 v (txAt h2 v) y := fun v hv => by
    obtain ⟨j, b, e, rfl, _, _, pe⟩ := at_ v hv
    exact ⟨e.2, by rw [pe.tx]; exact pe⟩
  have one : ∀ v ∈ as.map Value.ref, ∀ u ∈ as.map Value.ref, txAt h2 v = txAt h2 u → v = u := fun v hv u hu e => by
    obtain ⟨j, b, x, rfl, hj, hx, px⟩ := at_ v hv
    obtain ⟨i, c, y, rfl, hi, hy, py⟩ := at_ u hu
    rw [px.tx, py.tx] at e
    have e1 : (l.map (·.1))[j]? = some x.1 := by rw [List.getElem?_map, hx]; rfl
    have e2 : (l.map (·.1))[i]? = some x.1 := by rw [List.getElem?_map, hy, e]; rfl
    obtain rfl : j = i := (List.getElem?_inj (List.getElem?_eq_some_iff.mp e1).1 nd).mp (e1.trans e2.symm)
    rw [hj] at hi
    rw [Option.some.inj hi]
  refine wpAny_call_entry PyProof.Rows.slot_list_sort ⟨_, hob, rfl⟩ PyProof.Rows.entry_list_sort
    (SrtO.list_sort_ord (s := { s with heap := h2, toks := tk }) (swoS (txAt h2)) hob (by rw [List.length_map, lal]; exact hz) (fun h2' => txt_sortable (s := { s with heap := h2, toks := tk }) h2' hP one fun o e => ?_) fun out hs hb => ⟨.none, rfl, ?_⟩) (PyProof.Rows.args_list_sort _)
  · have e' : some o = some (seqObj "list" (as.map Value.ref).toArray 0) := e.symm.trans hob
    cases e'
    exact fun c => absurd (Value.type.inj c) (by decide)
  · show EP X pins σ Q (.ref h'.objs.size) { s with heap := sortedHeap h2 h'.objs.size (as.map Value.ref) out.toArray, toks := tk }
    have ez0 : (as.zip l).map (fun z => Value.ref z.1) = as.map Value.ref := by
      rw [show (fun z : Addr × Str × Int => Value.ref z.1) = Value.ref ∘ Prod.fst from rfl, ← List.map_map, List.map_fst_zip (by rw [lal]; exact Nat.le_refl _)]
    obtain ⟨zs, pz, ez⟩ := perm_lift (fun z : Addr × Str × Int => Value.ref z.1) hb.perm (as.zip l) ez0
    have idx : ∀ z ∈ zs, ∃ j : Nat, as[j]? = some z.1 ∧ l[j]? = some z.2 := fun z hz => by
      obtain ⟨j, hj⟩ := List.mem_iff_getElem?.mp (pz.mem_iff.mp hz)
      exact ⟨j, List.getElem?_zip_eq_some.mp hj⟩
    have ztx : ∀ z ∈ zs, txAt h2 (.ref z.1) = z.2.1 := fun z hz => by
      obtain ⟨j, j1, j2⟩ := idx z hz
      obtain ⟨e, e1, e2⟩ := pr2 j _ j1
      rw [e2.tx, Option.some.inj (e1.symm.trans j2)]
    have hperm : (zs.map (·.2)).Perm l := by
      have e := pz.map (·.2)
      rw [List.map_snd_zip (by rw [lal]; exact Nat.le_refl _)] at e
      exact e
    have hsort : (zs.map (·.2)).Pairwise fun e f => ltS f.1 e.1 = false := by
      have hs' : (zs.map fun z => Value.ref z.1).Pairwise fun x y => ltS (txAt h2 y) (txAt h2 x) = false := by rw [ez]; exact hs
      rw [List.pairwise_map] at hs' ⊢
      refine List.Pairwise.imp_of_mem (fun {x y} hx hy h => ?_) hs'
      rw [ztx x hx, ztx y hy] at h
      exact h
    have kF : ∀ b o, b ≠ h'.objs.size → h2.get? b = some o → (sortedHeap h2 h'.objs.size (as.map Value.ref) out.toArray).get? b = some o := fun b o hb e => (PyProof.Rows.sortedHeap_old hb (Heap.lt_size e)).trans e
    have kS : ∀ b o, s.heap.get? b = some o → (sortedHeap h2 h'.objs.size (as.map Value.ref) out.toArray).get? b = some o := fun b o e => kF b o (ne0 _ _ (hk b o e)) (ka _ _ (hk b o e))
    obtain ⟨eF, heF⟩ := PyProof.Rows.sortedHeap_at (vs := as.map Value.ref) (out := out.toArray) hob
    have I1 : Inv X pins σ H { s with heap := sortedHeap h2 h'.objs.size (as.map Value.ref) out.toArray, toks := tk } := I.kept (t' := tk) kS
    have hn0 : H h'.objs.size = none := I.hok.fresh (Nat.le_of_lt hlt)
    have rv : Vals (zs.map fun z => V.ref z.1) out := by
      rw [← ez]
      exact vals_maps (fun z : Addr × Str × Int => V.ref z.1) (fun z => Value.ref z.1) zs fun _ _ => rfl
    have hlen : (zs.map fun z => V.ref z.1).length ≤ sizeLine := by
      have e := hperm.length_eq
      rw [List.length_map] at e
      rw [List.length_map, e]
      exact hz
    have I2 : Inv X pins σ (upd H h'.objs.size (.lst (zs.map fun z => V.ref z.1))) { s with heap := sortedHeap h2 h'.objs.size (as.map Value.ref) out.toArray, toks := tk } :=
      I1.take (h' := sortedHeap h2 h'.objs.size (as.map Value.ref) out.toArray) (t' := tk) (fun b ob _ e => e) (I.fpOk (Nat.le_of_lt hlt) hn0) ⟨hlen, out, eF, rv, heF⟩
    obtain ⟨H2, I3, g, qt⟩ := L2.DX.takeT (P := fun b vs => ∃ (j : Nat) (e : Str × Int), as[j]? = some b ∧ l[j]? = some e ∧ vs = [.str e.1, .int e.2]) I as _ I2 ndA fun b hb => by
      obtain ⟨j, hj⟩ := List.mem_iff_getElem?.mp hb
      obtain ⟨e, he, b', t, u, eb, o, ho, hc', n, hd⟩ := pr j b hj
      obtain rfl := Value.ref.inj eb
      have hbl : s.heap.objs.size ≤ b := Nat.le_of_lt (hG.above b hb)
      refine ⟨hbl, ?_, [.str e.1, .int e.2], ⟨j, e, hj, he, rfl⟩, fun H3 => ⟨(by show 2 ≤ sizeLine; decide), [Value.str e.1 t, Value.int e.2 u], .cons ⟨t, rfl⟩ (.cons ⟨u, rfl⟩ .nil), ⟨o, kF _ _ (ne0 _ _ ho) (ka _ _ ho), hc', n, hd⟩⟩⟩
      rw [upd_ne (ne0 _ _ ho)]
      exact I.hok.fresh hbl
    refine ⟨.ref h'.objs.size, H2, I3, rfl, q H2 h'.objs.size (zs.map fun z => V.ref z.1) (Gr.of_ex fun b o e => g b o (by rw [upd_ne (ne_of_none e hn0)]; exact e)) hn0 (g _ _ upd_same) ?_⟩
    rw [← ordS_one hsort hperm nd, List.map_map]
    have fin : ∀ ws : List (Addr × Str × Int), (∀ z ∈ ws, H2 z.1 = some (.tup [.str z.2.1, .int z.2.2])) → Tps H2 (ws.map fun z => V.ref z.1) (ws.map fun z => [V.str z.2.1, V.int z.2.2]) := by
      intro ws
      induction ws with
      | nil => exact fun _ => .nil
      | cons z ws ih => exact fun h => .cons ⟨_, rfl, h z List.mem_cons_self⟩ (ih fun y hy => h y (List.mem_cons_of_mem _ hy))
    refine fin zs fun z hz => ?_
    obtain ⟨i, i1, i2⟩ := idx z hz
    obtain ⟨vs, ⟨j, e, j1, j2, rfl⟩, hH⟩ := qt z.1 (List.mem_of_getElem? i1)
    obtain rfl : i = j := (List.getElem?_inj (List.getElem?_eq_some_iff.mp i1).1 ndA).mp (i1.trans j1.symm)
    rw [Option.some.inj (j2.symm.trans i2)] at hH
    exact hH
end
end PK

set_option Elab.async false
set_option linter.all false
set_option maxRecDepth 100000
set_option maxHeartbeats 2000000
/-! tuple(l) of which the object stays known; dict(t) of such a tuple of pairs. -/
namespace PK
open PySem L2 PyProof.Rows
section
variable {X : Cx}
def rTupZ (K : PySem.W.Frag) : List V → Hp → VK → Prop := fun xs H Q => ∃ p ys, xs = [.ref p] ∧ SqL K H p ys ∧ ∀ l ob, ob.cls = .type "tuple" → ob.dict = none → H l = none → Q (.ref l) (upd H l (.frz ob (.tup ys)))
theorem call_tuple_fz {K : PySem.W.Frag} (hK : X.K = K := by rfl) : CallR X (.type "tuple") (rTupZ K) := by
  subst hK
  intro pins s σ H xs us Q I r h
  obtain ⟨p, ys, rfl, hq, q⟩ := h
  obtain rfl := Vals.ref1 r
  obtain ⟨its, rv, pl, hz⟩ := I.list hq
  refine call_tuple_list pl.isList (fun h' kp => ?_) (by have := rv.length; simp only [List.size_toArray]; omega)
  have I1 : Inv X pins σ H { s with heap := h' } := I.kept (t' := s.toks) kp
  have hg : (h'.push { cls := .type "tuple", data := .seq its.toArray }).get? h'.objs.size = some { cls := .type "tuple", data := .seq its.toArray } := Heap.get?_push_size _ rfl
  have I2 : Inv X pins σ (upd H h'.objs.size (.frz { cls := .type "tuple", data := .seq its.toArray } (.tup ys))) { s with heap := h'.push { cls := .type "tuple", data := .seq its.toArray } } :=
    I1.laid (t' := s.toks) (fun b o e => Heap.get?_push_of_some _ e) (Nat.le_refl _) ⟨hg, hz, its, rv, IsTup.new _ _⟩
  exact ⟨.ref h'.objs.size, _, I2, rfl, q _ _ rfl rfl (I1.hok.fresh (Nat.le_refl _))⟩
def mrgA (l : List (Str × Int)) : List (Str × Int) := l.foldl (fun t e => putA t e.1 e.2) []
theorem mrg_tab (l : List (Str × Int)) : mergeK [] (l.map txV) = tabV (mrgA l) := by
  have go : ∀ (l acc : List (Str × Int)), mergeK (tabV acc) (l.map txV) = tabV (l.foldl (fun t e => putA t e.1 e.2) acc) := by
    intro l
    induction l with
    | nil => exact fun _ => rfl
    | cons e l ih =>
      intro acc
      rw [List.map_cons, List.foldl_cons, ← ih]
      show mergeK (putK (tabV acc) (.inr e.1) (.int e.2)) (l.map txV) = _
      rw [show putK (tabV acc) (.inr e.1) (.int e.2) = tabV (putA acc e.1 e.2) from put_map Sum.inr inr_inj V.int acc e.1 e.2]
  exact go l []
theorem prs_of {H : Hp} {h : Heap} {P : Program} {w : World} (ok : HOk P w H h) : ∀ (xs : List V) (its : List Value) (l : List (Str × Int)), Vals xs its → Tps H xs (l.map fun e => [.str e.1, .int e.2]) →
    ∃ ps : List (Value × Value), ps.length = l.length ∧ its.length = l.length ∧ ∃ kvs : List (Key × Value), KV (l.map txV) kvs ∧ ∀ (j : Nat) (k v : Value), ps[j]? = some (k, v) → (∃ c, its[j]? = some (.ref c) ∧ IsTup h c #[k, v]) ∧ ∃ y, kvs[j]? = some (y, v) ∧ keyIs y k = true
  | [], its, [], r, _ => by
    cases r
    exact ⟨[], rfl, rfl, [], .nil, fun j k v e => by simp at e⟩
  | [], _, _ :: _, _, t => by cases t
  | _ :: _, _, [], _, t => by cases t
  | x :: xs, its, e :: l, r, t => by
    cases r with
    | cons r1 r2 =>
      cases t with
      | cons t1 t2 =>
        obtain ⟨ps, p1, p2, kvs, p3, p4⟩ := prs_of ok xs _ l r2 t2
        obtain ⟨c, rfl, hc⟩ := t1
        obtain ⟨_, its2, rv, tp⟩ := ok c _ hc
        obtain ⟨u1, u2, rfl, q1, q2⟩ := vals2 rv
        obtain ⟨t, rfl⟩ := q1
        obtain ⟨u, rfl⟩ := q2
        cases r1
        refine ⟨(.str e.1 t, .int e.2 u) :: ps, by rw [List.length_cons, List.length_cons, p1], by rw [List.length_cons, List.length_cons, p2], (.inr e.1, .int e.2 u) :: kvs, .cons ⟨rfl, u, rfl⟩ p3, fun j k v ej => ?_⟩
        match j with
        | 0 =>
          cases ej
          exact ⟨⟨c, rfl, tp⟩, _, rfl, keyIs_str _ _⟩
        | j + 1 => exact p4 j k v ej
/-- dict(t), t such a tuple of pairs -/
def rDictT : List V → Hp → VK → Prop := fun vs H Q => ∃ (b : Addr) (xs : List V) (l : List (Str × Int)), vs = [.ref b] ∧ FzT H b xs ∧ Tps H xs (l.map fun e => [.str e.1, .int e.2]) ∧ ∀ p, H p = none → Q (.ref p) (upd H p (.dK (tabV (mrgA l))))
theorem call_dictT (hcalm : X.calm = true) : CallR X (.type "dict") rDictT := by
  intro pins s σ H vs us Q I r h
  obtain ⟨b, xs, l, rfl, ⟨ob, hb, hcl, hdi⟩, ht, q⟩ := h
  obtain rfl := Vals.ref1 r
  obtain ⟨hg, hz, its, rv, o, ho, hc, n, hd⟩ := I.hok b _ hb
  rw [hg] at ho
  obtain rfl := Option.some.inj ho
  obtain ⟨ps, p1, p2, kvs, kv, p4⟩ := prs_of I.hok xs its l rv ht
  have ll : kvs.length = l.length := by rw [← Paired.length kv, List.length_map]
  have xl := rv.length
  have P := PySem.PairArg.tuple (prog := X.prog) (w := X.w) b its.toArray (fun j => DT.refOf (its[j]?)) ps
  refine PySem.call_dict_pairs (knd := mixKind X.prog X.w) (kvs := kvs) P (I.ok.hd hcalm) ⟨⟨ob, n, hg, hc, hdi, hd⟩, by rw [List.size_toArray, p1, p2], fun j k v e => ?_⟩ ⟨by rw [ll, p1], fun i key v e => ?_⟩ (by rw [p1, ← p2]; omega) fun h' tk hd' hk => ?_
  · obtain ⟨⟨c, e1, e2⟩, _⟩ := p4 j k v e
    refine ⟨?_, .inl ?_⟩
    · simp only [List.getElem?_toArray, e1]
      rfl
    · dsimp only
      rw [e1]
      exact e2
  · obtain ⟨_, y, e1, e2⟩ := p4 i key v e
    exact ⟨y, e1, e2⟩
  · have hm : (s.heap.objs.size == sysModules) = false := beq_eq_false_iff_ne.mpr (Nat.ne_of_gt I.big)
    have hlen : (mergeK [] (l.map txV)).length ≤ sizeLine := by
      refine Nat.le_trans (length_mergeK (l.map txV) []) ?_
      rw [List.length_nil, List.length_map]
      omega
    have e0 := mrg_tab l
    have q0 := q s.heap.objs.size (I.hok.fresh (Nat.le_refl _))
    rw [← e0] at q0
    exact ⟨.ref s.heap.objs.size, upd H s.heap.objs.size (.dK (mergeK [] (l.map txV))), I.laid (t' := tk) (fun b o e => hk b o (by simp) e) (Nat.le_refl _) (show ObjOk X.prog X.w _ _ _ (.dK (mergeK [] (l.map txV))) from ⟨hlen, hm, merged [] kvs, KV.merge kv .nil, hd'⟩), rfl, q0⟩
end
end PK

set_option Elab.async false
set_option linter.all false
set_option maxRecDepth 100000
set_option maxHeartbeats 2000000
namespace PK
open PySem L2 PyProof.Rows
section
variable {K : PySem.W.Frag} {σ : L2.St} {H : Hp} {D : Ends}
theorem s_skip {r : R2} {w : Str} {g : List (Option Nat)} {t : TS} {tc : TC} {a : Addr} {xs : List V} (h : Sq K H a xs) (hn : xs.length ≠ g.length + 1) (k : tc (.ref a) D σ H) : cWordS K r w g t tc (.ref a) D σ H :=
  ⟨a, xs, rfl, h, by rw [if_neg hn]; exact k⟩
theorem s_ask {w u : Str} {g : List (Option Nat)} {t : TS} {tc : TC} {a : Addr} {ys : List V} (h : Sq K H a (.str u :: ys)) (ho : PyData.strOk u = true) (hw : PyData.strOk w = true)
    (k1 : u = w → ys.length = g.length → t D (gCaps g ys σ) H) (k2 : ¬ (u = w ∧ ys.length = g.length) → tc (.ref a) D σ H) : cWordS K (rEqD K) w g t tc (.ref a) D σ H := by
  by_cases hl : ys.length = g.length
  · refine ⟨a, _, rfl, h, ?_⟩
    rw [if_pos (by simp [hl])]
    intro x' ys' e
    cases e
    refine ⟨.str u, .str w, .str u, .str w, (Sh.str (n := 0) ho).shaped (by omega), (Sh.str (n := 0) hw).shaped (by omega), isW w (.str u), rfl, ?_⟩
    rw [isW_str]
    by_cases e : u = w
    · rw [if_pos (by simpa using e)]
      exact k1 e hl
    · rw [if_neg (by simpa using e)]
      exact k2 fun z => e z.1
  · exact s_skip h (by simp [hl]) (k2 fun z => hl z.2)
theorem s_yes {w : Str} {g : List (Option Nat)} {t : TS} {tc : TC} {a : Addr} {ys : List V} (h : Sq K H a (.str w :: ys)) (hl : ys.length = g.length) (hw : PyData.strOk w = true) (k : t D (gCaps g ys σ) H) : cWordS K (rEqD K) w g t tc (.ref a) D σ H :=
  s_ask h hw hw (fun _ _ => k) fun no => (no ⟨rfl, hl⟩).elim
theorem s_not {w u : Str} {g : List (Option Nat)} {t : TS} {tc : TC} {a : Addr} {ys : List V} (h : Sq K H a (.str u :: ys)) (ho : PyData.strOk u = true) (hw : PyData.strOk w = true) (ne : ¬ u = w) (k : tc (.ref a) D σ H) : cWordS K (rEqD K) w g t tc (.ref a) D σ H :=
  s_ask h ho hw (fun e _ => (ne e).elim) fun _ => k
end
theorem pg_seqK {X : Cx} {K : PySem.W.Frag} {pos : Pos} {es : List Expr} {k : Nat} {t : TGs} {n : Nat} (hc : X.calm = true) (h : PGs X es t) (hK : X.K = K := by rfl)
    (hn : (assignEach es X.env).length = n := by rfl) (hst : (assignEach es X.env).findIdx? (·.1) = none := by rfl) : PG X (.Tuple es k pos) (gSeq K n t) := by
  subst hK; exact pg_seq hc h hn hst
theorem pe_makeA {X : Cx} {C : Addr} {k : Nat} {x : Str} {ps : List Str} {sp : Sp} {e : Expr} {es : List Expr} {pos p : Pos} {t : TA} (D : HasI X.prog X.w X.K X.mg X.base C k x ps sp) (hr : Room (k + 1) X.A) (hg : Gl X x) (ha : PA X (e :: es) t) (hdb : (x == ("__debug__" : Str)) = false := by decide)
    (he : starEach (e :: es) X.env = (false, eval e X.env) :: starEach es X.env := by rfl) (hpl : (backTo pos (starEach es X.env)).any (·.1) = false := by rfl) : PE X (.Call (.Name x p) (e :: es) [] pos) (tMake C sp [] E0 t) := by
  obtain ⟨f, fd, F, M, m, b⟩ := D.ex
  exact pe_make M F hr hg m b .nil pass0 ha hdb he hpl
theorem w_gseq {K : PySem.W.Frag} {σ : L2.St} {H : Hp} {n : Nat} {t : TGs} {a : Addr} {xs : List V} {R : L2.St → Hp → Prop} (h : Sq K H a xs) (hn : xs.length = n) (k : t xs σ H R) : gSeq K n t (.ref a) σ H R := ⟨a, xs, rfl, h, hn, k⟩
/-- a def that has defaults, all of its parameters told -/
structure DfID (K : PySem.W.Frag) (mg : Str → Option Value) (C : Addr) (x q : Str) (st : Stmt) (ps : List Str) : Prop where
  ex : ∃ dvs f fd, FunD K "__init__" q (defArgs st) (defBody st) (defScope st) dvs [] f fd ∧ Mk K C f ∧ mg x = some (.ref C) ∧ Binds K fd ps []
section
variable {P : Program} {w : World} {K : PySem.W.Frag} {mg : Str → Option Value} {base : Heap}
theorem HasI.mkD {C : Addr} {k : Nat} {x q : Str} {st : Stmt} {ps : List Str} {sp : Sp} (D : DfID K mg C x q st ps) (h : ∀ dvs f fd, FunD K "__init__" q (defArgs st) (defBody st) (defScope st) dvs [] f fd → FnOk P w K mg base CX0 k f fd ps sp) : HasI P w K mg base C k x ps sp := by
  obtain ⟨dvs, f, fd, F, r⟩ := D.ex
  exact ⟨f, fd, h dvs f fd F, r⟩
theorem funD_ok {x qual : Str} {st : Stmt} {dvs : List V} {f : Addr} {fd : FuncData} {N ps : List Str} {k : Nat} {sp : Sp} (F : FunD K x qual (defArgs st) (defBody st) (defScope st) dvs [] f fd) (S : FnScope N ps (defScope st)) (len : ∀ vs H Q E, sp vs H Q E → vs.length = ps.length)
    (hbody : ∀ (cdv : Value) (A : Around) (outer : List Env) (s : Shared) (H : Hp) (vs : List V) (Q : VK) (E : XK), Room k (A.deeper (envOfC qual (defScope st) s.heap.objs.size f cdv)) → sp vs H Q E →
      ∃ t, PSs (cxOf CX0 P w K mg base N qual (defScope st) f cdv A outer s H E).nox (defBody st) t ∧ t { nx := fun _ H' => Q .non H', rt := Q } (start N vs) H) : FnOk P w K mg base CX0 (k + 1) f fd ps sp :=
  F.ok S len fun cdv A outer s H vs Q E hr hsp => by
    obtain ⟨t, h, q⟩ := hbody cdv A outer s H vs Q E hr hsp
    exact ⟨t, h.nox, q⟩
end
end PK

set_option Elab.async false
set_option linter.all false
set_option maxRecDepth 100000
set_option maxHeartbeats 2000000
/-! Lists, tuples and dicts, one in another, that are equal; an own class's ==, whatever it answers; calls with names. -/
namespace PK
open PySem PySem.Spec PyProof.Rows L2
def EqC (K : PySem.W.Frag) (H : Hp) (E : V → V → Prop) (x y : V) : Prop :=
  (∃ a b xs ys, x = .ref a ∧ y = .ref b ∧ SqL K H a xs ∧ SqL K H b ys ∧ Paired E xs ys) ∨
  (∃ a b xs ys, x = .ref a ∧ y = .ref b ∧ SqT K H a xs ∧ SqT K H b ys ∧ Paired E xs ys) ∨
  (∃ a b ks ls, x = .ref a ∧ y = .ref b ∧ H a = some (.dK ks) ∧ H b = some (.dK ls) ∧ Paired (fun p q => p.1 = q.1 ∧ E p.2 q.2) ks ls)
/-- alike, not deeper than n -/
def EqW (K : PySem.W.Frag) (H : Hp) : Nat → V → V → Prop
  | 0 => fun x y => x = y ∧ flatB x = true
  | n + 1 => fun x y => (x = y ∧ flatB x = true) ∨ EqC K H (EqW K H n) x y
theorem EqW.flat {K : PySem.W.Frag} {H : Hp} {x : V} (h : flatB x = true) : ∀ n, EqW K H n x x
  | 0 => ⟨rfl, h⟩
  | _ + 1 => .inl ⟨rfl, h⟩
abbrev Like (P : Program) (w : World) (s : Shared) (n : Nat) (E : V → V → Prop) : Prop := ∀ x y v u, E x y → RelV x v → RelV y u → PySem.W.EqTree P w s n v u true
theorem likes {P : Program} {w : World} {s : Shared} {n : Nat} {E : V → V → Prop} (ih : Like P w s n E) {xs ys : List V} (hp : Paired E xs ys) :
    ∀ {us ws : List Value}, Vals xs us → Vals ys ws → ∀ j (h1 : j < us.length) (h2 : j < ws.length), PySem.W.EqTree P w s n us[j] ws[j] true := by
  induction hp with
  | nil =>
    intro us ws r1 r2 j h1 h2
    cases r1
    exact absurd h1 (Nat.not_lt_zero j)
  | cons h _ k =>
    intro us ws r1 r2 j h1 h2
    cases r1 with
    | cons a1 b1 =>
      cases r2 with
      | cons a2 b2 =>
        cases j with
        | zero => exact ih _ _ _ _ h a1 a2
        | succ j => exact k b1 b2 j (Nat.lt_of_succ_lt_succ h1) (Nat.lt_of_succ_lt_succ h2)
theorem kv_of {ks : List (Key × V)} {va : List (Key × Value)} (r : KV ks va) : ∀ {k : Key} {v : Value}, (k, v) ∈ va → ∃ x, (k, x) ∈ ks ∧ RelV x v := by
  unfold KV at r
  induction r with
  | nil =>
    intro k v h
    cases h
  | @cons p q ps qs h t ih =>
    intro k v hm
    rcases List.mem_cons.mp hm with e | hm
    · subst e
      obtain ⟨h1, h2⟩ := h
      exact ⟨p.2, by rw [← show p.1 = k from h1]; exact List.mem_cons_self, h2⟩
    · obtain ⟨x, h1, h2⟩ := ih hm
      exact ⟨x, List.mem_cons_of_mem _ h1, h2⟩
theorem val_pr {E : V → V → Prop} {ks ls : List (Key × V)} (h : Paired (fun p q => p.1 = q.1 ∧ E p.2 q.2) ks ls) : (ls.map (·.1)).Nodup → ∀ p ∈ ks, ∃ u, valV ls p.1 = some u ∧ E p.2 u := by
  induction h with
  | nil =>
    intro _ p hp
    cases hp
  | @cons p q ps qs hd t ih =>
    intro nd x hx
    rw [List.map_cons, List.nodup_cons] at nd
    rcases List.mem_cons.mp hx with e | hx
    · subst e
      exact ⟨q.2, valV_pos hd.1.symm, hd.2⟩
    · obtain ⟨u, h1, h2⟩ := ih nd.2 x hx
      refine ⟨u, ?_, h2⟩
      rw [valV_neg fun e => ?_]
      · exact h1
      · have m : x.1 ∈ qs.map (·.1) := by
          have z : ∀ {α β : Type} {F : α → β → Prop} {as : List α} {bs : List β}, Paired F as bs → ∀ a ∈ as, ∃ b ∈ bs, F a b := by
            intro α β F as bs h
            induction h with
            | nil => intro a ha; cases ha
            | cons f _ k =>
              intro a ha
              rcases List.mem_cons.mp ha with e | ha
              · exact ⟨_, List.mem_cons_self, e ▸ f⟩
              · obtain ⟨b, hb, hf⟩ := k a ha
                exact ⟨b, List.mem_cons_of_mem _ hb, hf⟩
          obtain ⟨b, hb, hf⟩ := z t x hx
          rw [hf.1]
          exact List.mem_map.mpr ⟨b, hb, rfl⟩
        exact nd.1 (by rw [e]; exact m)
theorem pr_vals {P : Program} {w : World} {h : Heap} {a : Addr} {E : V → V → Prop} {ks ls : List (Key × V)} {vb : List (Key × Value)} (rb : KV ls vb) (db : h.DictOf (mixKind P w) a vb) (hp : Paired (fun p q => p.1 = q.1 ∧ E p.2 q.2) ks ls) :
    ks.length = ls.length ∧ ∀ p ∈ ks, ∃ u, valV ls p.1 = some u ∧ E p.2 u := by
  obtain ⟨_, _, _, _, _, _, _, _, nd⟩ := db
  exact ⟨hp.length, val_pr hp (by rw [rb.keys]; exact nd)⟩
section
variable {X : Cx} {pins : List (Addr × Obj)} {σ : L2.St} {H : Hp} {s : Shared}
theorem like_dict {n : Nat} {E : V → V → Prop} (ih : Like X.prog X.w s n E) {ks ls : List (Key × V)} {va vb : List (Key × Value)} (ra : KV ks va) (rb : KV ls vb) (hp : ∀ p ∈ ks, ∃ u, valV ls p.1 = some u ∧ E p.2 u) :
    ∀ k v y, (k, v) ∈ va → valueAt vb k = some y → PySem.W.EqTree X.prog X.w s n v y true := fun k v y hm hv => by
  obtain ⟨x, h1, h2⟩ := kv_of ra hm
  obtain ⟨u, e, f⟩ := hp _ h1
  have rr : RelO (some u) (valueAt vb k) := by rw [← e]; exact rb.val k
  obtain ⟨z, hz, rz⟩ := rr.some_of
  rw [hv] at hz
  cases hz
  exact ih _ _ _ _ f h2 rz
theorem dict_all {E : V → V → Prop} {ks ls : List (Key × V)} {va vb : List (Key × Value)} (ra : KV ks va) (rb : KV ls vb) (hl : ks.length = ls.length) (hp : ∀ p ∈ ks, ∃ u, valV ls p.1 = some u ∧ E p.2 u) :
    (va.length == vb.length && va.all fun p => (valueAt vb p.1).isSome && true) = true := by
  have e : va.length = vb.length := by rw [← ra.length, ← rb.length]; exact hl
  rw [e]
  simp only [beq_self_eq_true, Bool.true_and, Bool.and_true, List.all_eq_true]
  rintro ⟨k, v⟩ hm
  obtain ⟨x, h1, h2⟩ := kv_of ra hm
  obtain ⟨u, e, f⟩ := hp _ h1
  have rr : RelO (some u) (valueAt vb k) := by rw [← e]; exact rb.val k
  obtain ⟨z, hz, rz⟩ := rr.some_of
  show (valueAt vb k).isSome = true
  rw [hz]
  rfl
theorem all_one {α : Type} (l : List α) : (l.all fun _ => true) = true := List.all_eq_true.mpr fun _ _ => rfl
theorem eqC_tree (I : Inv X pins σ H s) {n : Nat} {E : V → V → Prop} (ih : Like X.prog X.w s n E) : Like X.prog X.w s (n + 1) (EqC X.K H E) := fun x y v u h rx ry => by
  rcases h with ⟨a, b, xs, ys, rfl, rfl, ha, hb, hp⟩ | ⟨a, b, xs, ys, rfl, rfl, ha, hb, hp⟩ | ⟨a, b, ks, ls, rfl, rfl, ha, hb, hpp⟩
  · cases (show v = Value.ref a from rx)
    cases (show u = Value.ref b from ry)
    by_cases e : a = b
    · subst e
      exact .same
    obtain ⟨us, r1, p1, _⟩ := I.list ha
    obtain ⟨ws, r2, p2, _⟩ := I.list hb
    have hsz : us.toArray.size = ws.toArray.size := by
      rw [List.size_toArray, List.size_toArray, ← r1.length, ← r2.length]
      exact Paired.length hp
    have t := PySem.W.EqTree.lists (e := fun _ => true) e p1.isList p2.isList hsz fun j h1 h2 => by
      have k := likes ih hp r1 r2 j (by simpa using h1) (by simpa using h2)
      simpa using k
    rw [all_one] at t
    exact t
  · cases (show v = Value.ref a from rx)
    cases (show u = Value.ref b from ry)
    by_cases e : a = b
    · subst e
      exact .same
    obtain ⟨us, r1, p1, _⟩ := I.tuple ha
    obtain ⟨ws, r2, p2, _⟩ := I.tuple hb
    have hsz : us.toArray.size = ws.toArray.size := by
      rw [List.size_toArray, List.size_toArray, ← r1.length, ← r2.length]
      exact Paired.length hp
    have t := PySem.W.EqTree.tuples (e := fun _ => true) e p1 p2 fun j h1 h2 => by
      have k := likes ih hp r1 r2 j (by simpa using h1) (by simpa using h2)
      simpa using k
    rw [all_one, hsz] at t
    simpa using t
  · cases (show v = Value.ref a from rx)
    cases (show u = Value.ref b from ry)
    by_cases e : a = b
    · subst e
      exact .same
    obtain ⟨_, ya, va, ra, da⟩ := dk_of I.hok ha
    obtain ⟨_, yb, vb, rb, db⟩ := dk_of I.hok hb
    obtain ⟨hl, hp⟩ := pr_vals rb db hpp
    have t := PySem.W.EqTree.dicts (e := fun _ => true) e ya yb da db (like_dict ih ra rb hp)
    rw [dict_all ra rb hl hp] at t
    exact t
theorem eqW_tree (I : Inv X pins σ H s) : ∀ n, Like X.prog X.w s n (EqW X.K H n)
  | 0, x, y, v, u, h, rx, ry => by
    obtain ⟨rfl, f⟩ := h
    exact .leaf fun A _ => eqAt_same rx ry f
  | n + 1, x, y, v, u, h, rx, ry => by
    rcases h with ⟨rfl, f⟩ | h
    · exact .leaf fun A _ => eqAt_same rx ry f
    · exact eqC_tree I (eqW_tree I n) x y v u h rx ry
end
def rEqW (K : PySem.W.Frag) : R2 := fun x y H Q => ∃ n, n ≤ 60 ∧ EqC K H (EqW K H n) x y ∧ Q (.bl true) H
theorem op_eqW {X : Cx} {K : PySem.W.Frag} (hu : X.A.units + 64 < cLine) (hK : X.K = K := by rfl) : OpR X (compareOp .Eq) (rEqW K) := by
  subst hK
  intro pins s σ H x y v u Q I rx ry h
  obtain ⟨n, hn, h, q⟩ := h
  have ih := eqW_tree I n
  have fin : EP X pins σ Q (.bool true) s := ⟨.bl true, H, I, rfl, q⟩
  rcases h with ⟨a, b, xs, ys, rfl, rfl, ha, hb, hp⟩ | ⟨a, b, xs, ys, rfl, rfl, ha, hb, hp⟩ | ⟨a, b, ks, ls, rfl, rfl, ha, hb, hpp⟩
  · cases (show v = Value.ref a from rx)
    cases (show u = Value.ref b from ry)
    obtain ⟨us, r1, p1, _⟩ := I.list ha
    obtain ⟨ws, r2, p2, _⟩ := I.list hb
    have hsz : us.toArray.size = ws.toArray.size := by
      rw [List.size_toArray, List.size_toArray, ← r1.length, ← r2.length]
      exact Paired.length hp
    refine PySem.W.eq_listsT (n := n) (e := fun _ => true) p1.isList p2.isList hsz (fun j h1 h2 => ?_) (by omega) ?_
    · have k := likes ih hp r1 r2 j (by simpa using h1) (by simpa using h2)
      simpa using k
    · rw [all_one]
      exact fin
  · cases (show v = Value.ref a from rx)
    cases (show u = Value.ref b from ry)
    obtain ⟨us, r1, p1, _⟩ := I.tuple ha
    obtain ⟨ws, r2, p2, _⟩ := I.tuple hb
    have hsz : us.toArray.size = ws.toArray.size := by
      rw [List.size_toArray, List.size_toArray, ← r1.length, ← r2.length]
      exact Paired.length hp
    refine PySem.W.eq_tuplesT (n := n) (e := fun _ => true) p1 p2 (fun j h1 h2 => ?_) (by omega) ?_
    · have k := likes ih hp r1 r2 j (by simpa using h1) (by simpa using h2)
      simpa using k
    · rw [all_one, hsz]
      simpa using fin
  · cases (show v = Value.ref a from rx)
    cases (show u = Value.ref b from ry)
    obtain ⟨_, ya, va, ra, da⟩ := dk_of I.hok ha
    obtain ⟨_, yb, vb, rb, db⟩ := dk_of I.hok hb
    obtain ⟨hl, hp⟩ := pr_vals rb db hpp
    refine PySem.W.eq_dictsT (n := n) (e := fun _ => true) ya yb da db (like_dict ih ra rb hp) (by omega) ?_
    rw [dict_all ra rb hl hp]
    exact fin
/-- == by an own __eq__ that keeps a promise -/
def rEqO (C : Addr) (sp : Sp) : R2 := fun x y H Q => ∃ a b dx dy fs gs, x = .ref a ∧ y = .ref b ∧ H a = some (.ins C dx fs) ∧ H b = some (.ins C dy gs) ∧ sp [.ref a, .ref b] H (fun v H' => ∃ k, v = .bl k ∧ Q (.bl k) H') E0
theorem op_eqO {X : Cx} {C : Addr} {n : Nat} {ps : List Str} {sp : Sp} (D : HasM X.prog X.w X.K X.mg X.base C n "__eq__" ps sp) (hr : Room n X.A) : OpR X (compareOp .Eq) (rEqO C sp) := by
  obtain ⟨f, fd, F, me, hb⟩ := D.ex
  intro pins s σ H x y v u Q I rx ry h
  obtain ⟨a, b, dx, dy, fs, gs, rfl, rfl, ha, hb', hsp⟩ := h
  cases (show v = Value.ref a from rx)
  cases (show u = Value.ref b from ry)
  obtain ⟨mA, J, _⟩ := ins_get I.hok ha
  obtain ⟨mB, J', _⟩ := ins_get I.hok hb'
  obtain ⟨od, J, _⟩ := J.look
  obtain ⟨od', J', _⟩ := J'.look
  obtain ⟨m, hF⟩ := I.fr
  refine PySem.W.cmp_K (op := .Eq) (tb := .ref C) hr.units0 hF I.ok.mod.kin J J'.type (by simp [PySem.W.notFirst]) me.at_ me.fn ?_
  have hl := F.len _ _ _ _ hsp
  have r2 : Vals [V.ref a, V.ref b] [Value.ref a, Value.ref b] := .cons rfl (.cons rfl .nil)
  refine wpAny_call (codeAny_mono (F.run X.A X.stack s H ⟨[.ref a, .ref b], []⟩ [.ref a, .ref b] [.ref a, .ref b] _ E0 hr I.env0 (by
    have := hb s [.ref a, .ref b] I.kIn (by simpa using hl)
    simpa using this) r2 hsp) fun r s' hq => ?_)
  cases r with
  | error e => exact pass0 pins σ H s e s' I hq
  | ok fl =>
    cases fl with
    | ret w =>
      obtain ⟨z, H', I', rz, k, ez, q⟩ := I.after hq
      subst ez
      cases (show w = Value.bool k from rz)
      exact ⟨.bl k, H', I', rfl, q⟩
    | next => exact False.elim hq
    | brk => exact False.elim hq
    | cont => exact False.elim hq
end PK

namespace PK
open PySem L2
def topS (i : Nat) : Stmt := PySem.Challenge.pw_missedmarks_k80_reads_in_the_place_of_wa.main.body.getD i (.Pass ⟨0, 0, 0, 0⟩)
structure Txt (mg : Str → Option Value) : Prop where
  m_abs : mg "abs" = none
  m_all : mg "all" = none
  m_any : mg "any" = none
  m_bool : mg "bool" = none
  m_dict : mg "dict" = none
  m_enumerate : mg "enumerate" = none
  m_int : mg "int" = none
  m_isinstance : mg "isinstance" = none
  m_len : mg "len" = none
  m_list : mg "list" = none
  m_max : mg "max" = none
  m_min : mg "min" = none
  m_range : mg "range" = none
  m_set : mg "set" = none
  m_sorted : mg "sorted" = none
  m_str : mg "str" = none
  m_sum : mg "sum" = none
  m_tuple : mg "tuple" = none
  m_zip : mg "zip" = none
end PK
set_option pp.maxSteps 700
local macro_rules | `(tactic| walk_at "c") => `(tactic| (first | assumption | omega | decide | (dsimp only; done) | (dsimp only; first | assumption | omega | decide) | (unfold L2.CMul; omega) | (unfold L2.CDiv; omega) | (unfold L2.CPow; omega) | (unfold L2.CPow; exact ⟨by decide, by decide, by omega⟩)))
local macro_rules | `(tactic| walk_at "w") => `(tactic| (repeat (first
  | dsimp only
  | with_reducible first
    | apply WK.w_seq | apply WK.w_asg | apply WK.w_name | apply WK.w_gsub | apply WK.w_drop | apply WK.w_ret | apply WK.w_par | apply WK.w_par3 | apply WK.w_next
    | apply WK.w_c | apply WK.w_op | apply WK.w_un | apply WK.w_I0 | apply WK.w_U | apply WK.w_eqI | apply WK.w_neI | apply WK.w_eqS | apply WK.w_neS | apply WK.w_eqB | apply WK.w_neB
    | apply WK.w_T | apply WK.w_B | apply WK.w_not | apply WK.w_notV
    | apply WK.w_nil | apply WK.w_cons | apply WK.w_call | apply WK.w_cb | apply WK.w_tup | apply WK.w_lst | apply WK.w_bm | apply WK.w_bm0 | apply WK.w_dget | apply WK.w_din | apply WK.w_dnotin | apply WK.w_dput | apply WK.w_sl | apply WK.w_noPart | apply WK.w_part | apply WK.w_yes
    | apply PK.w_for | apply PK.w_rng1 | apply PK.w_itL | apply PK.w_itT | apply PK.w_itS | apply PK.w_enT | apply PK.w_zipA | apply WK.w_gcons | apply WK.w_gnil | apply WK.w_yes | apply PK.w_lc | apply PK.w_exR
    | apply WK.w_or1 | apply WK.w_or2 | apply WK.w_ex1 | apply WK.w_ex2 | apply WK.w_rfl | apply WK.w_pr2 | apply WK.w_pr3 | apply WK.w_ex | apply WK.w_exI | apply WK.w_bl
  | (with_reducible refine' WK.w_var ?h1 ?_); (case h1 => exact rfl)
  | (with_reducible refine' WK.w_I ?h1 ?_); (case h1 => walk_at "c")
  | (with_reducible refine' PK.w_len ?h1 ?_); (case h1 => assumption)
  | (with_reducible refine' WK.w_ix ?h1 ?h2 ?_); (case h1 => first | assumption | exact L2.upd_same); (case h2 => rfl)
  | (with_reducible refine' WK.w_ixT ?h1 ?h2 ?_); (case h1 => first | assumption | exact L2.upd_same); (case h2 => rfl)
  | (with_reducible refine' WK.w_inT ?h1 ?h2 ?h3 ?_); (case h1 => first | assumption | exact L2.upd_same); (case h2 => rfl); (case h3 => rfl)
  | (with_reducible refine' WK.w_ninT ?h1 ?h2 ?h3 ?_); (case h1 => first | assumption | exact L2.upd_same); (case h2 => rfl); (case h3 => rfl)
  | (with_reducible refine' WK.w_gtup ?h1 ?h2 ?_); (case h1 => first | assumption | exact L2.upd_same); (case h2 => rfl)
  | (with_reducible refine' WK.w_set ?h1 ?h2 ?_); (case h1 => first | assumption | exact L2.upd_same); (case h2 => rfl))))
local macro_rules | `(tactic| walk_at "i") => `(tactic| ((with_reducible first | apply WK.w_if | apply WK.w_ifE | apply WK.w_andV | apply WK.w_orV | apply WK.w_and | apply WK.w_or); walk_at "w"))
local macro_rules | `(tactic| walk_at "2") => `(tactic| (first | refine WK.w_2 (fun h => ?_) (fun h => ?_) | refine WK.w_2n (fun h => ?_) (fun h => ?_) | refine L2.ite2 (fun h => ?_) (fun h => ?_)))
local macro_rules | `(tactic| walk_at "k") => `(tactic| (dsimp only [PK.tyN]; decide +kernel))
namespace PK
open PySem L2
section
variable {P : Program} {w : World} {K : PySem.W.Frag} {mg : Str → Option Value} {base : Heap}
abbrev s_law_take : Stmt := topS 6
abbrev N_law_take : List Str := ["_law_box_here", "_law_below", "_law_once", "_law_odd", "_law_found"]
abbrev ps_law_take : List Str := ["_law_box_here", "_law_below"]
theorem sc_law_take : FnScope N_law_take ps_law_take (defScope s_law_take) := ⟨rfl, rfl, rfl, by decide +kernel, rfl, by decide +kernel, by decide +kernel⟩
def spTake : Sp := fun vs H Q _ => ∃ (b : Addr) (m : Int) (n : Nat), vs = [.ref b, .int m] ∧ Bx H b (n + 1) ∧ 0 < m ∧ m ≤ 1000000 ∧
  ∀ (r : Int) (H' : Hp), 0 ≤ r → r < m → Gr [b] H H' → Bx H' b n → Q (.int r) H'
theorem has_take (D : Df K mg "_law_take" s_law_take ps_law_take) (T : Txt mg) : Has P w K mg base 1 "_law_take" ps_law_take spTake := Has.mk' D fun f fd F => by
  refine F.ok sc_law_take (fun vs H Q E h => ?_) (fun cdv A outer s H vs Q E hr h => ?_)
  · obtain ⟨b, m, n, rfl, _⟩ := h
    rfl
  · obtain ⟨b, m, n, rfl, ⟨x, sd, c, hb, x0, s0, s1, c0, c1⟩, m0, m1, q⟩ := h
    refine ⟨_, (pss_cons (ps_if (pt_cmpR op_gt (pe_ix (ix_listK (K := K)) (pv 0) pe_int (fun _ _ => rfl)) pe_int (nomark _))
  (pss_cons (ps_set (i := 4) sc_law_take.nd rfl (Or.inl rfl) (pe_op op_mod (pe_callTy call_int1 (by rfl) T.m_int (by decide +kernel) (pa_cons (pe_ix (ix_listK (K := K)) (pv 0) pe_int (fun _ _ => rfl)) pa_nil)) (pv 1)))
  (pss_cons (ps_asg (pe_op op_fdivW (pe_ix (ix_listK (K := K)) (pv 0) pe_int (fun _ _ => rfl)) (pv 1)) (pg_sub (pv 0) pe_int set_list))
  (pss_one (ps_ret (pv 4)))))
  pss_nil)
(pss_cons (ps_asg (pe_op op_add (pe_ix (ix_listK (K := K)) (pv 0) pe_int (fun _ _ => rfl)) pe_int) (pg_sub (pv 0) pe_int set_list))
(pss_cons (ps_set (i := 2) sc_law_take.nd rfl (Or.inl rfl) (pe_op op_mod (pe_callTy call_int1 (by rfl) T.m_int (by decide +kernel) (pa_cons (pe_op op_pow (pe_op op_add (pe_ix (ix_listK (K := K)) (pv 0) pe_int (fun _ _ => rfl)) (pe_op op_mul pe_int (pe_ix (ix_listK (K := K)) (pv 0) pe_int (fun _ _ => rfl)))) pe_int) pa_nil)) pe_int))
(pss_cons (ps_set (i := 3) sc_law_take.nd rfl (Or.inl rfl) (pe_op op_add (pe_op op_mod (pe_callTy call_int1 (by rfl) T.m_int (by decide +kernel) (pa_cons (pv 2) pa_nil)) pe_int) pe_int))
(pss_one (ps_ret (pe_op op_mod (pe_callTy call_int1 (by rfl) T.m_int (by decide +kernel) (pa_cons (pe_op op_fdiv (pe_op op_mod (pe_callTy call_int1 (by rfl) T.m_int (by decide +kernel) (pa_cons (pe_op op_add (pe_op op_mulW (pv 2) (pv 3)) (pe_op op_mul (pe_ix (ix_listK (K := K)) (pv 0) pe_int (fun _ _ => rfl)) pe_int)) pa_nil)) pe_int) pe_int) pa_nil)) (pv 1)))))))), ?_⟩
    walk_at "w"
    walk_at "i"
    refine ite2 (fun hx => ?_) (fun hx => ?_)
    · walk_at "w"
      refine WK.w_I (wide_div (b := 64) m0 (by omega) (by decide) (by decide)) ?_
      walk_at "w"
      exact q _ _ (Int.emod_nonneg _ (by omega)) (Int.emod_lt_of_pos _ m0) (Gr.mutL hb (by simp)) ⟨x / m, sd, c, upd_same, Int.ediv_nonneg x0 (by omega), s0, s1, c0, by omega⟩
    · walk_at "w"
      refine WK.w_I (wide_mul (a := 32) (b := 32) (by omega) (by omega) (by decide) (by decide) (by decide)) ?_
      walk_at "w"
      exact q _ _ (Int.emod_nonneg _ (by omega)) (Int.emod_lt_of_pos _ m0) (Gr.mutL hb (by simp)) ⟨x, sd, c + 1, upd_same, x0, s0, s1, by omega, by omega⟩
theorem use_take {H : Hp} {Q : VK} {E : XK} {b : Addr} {m : Int} {n : Nat} (hb : Bx H b (n + 1)) (h0 : 0 < m) (h1 : m ≤ 1000000) (k : ∀ (r : Int) (H' : Hp), 0 ≤ r → r < m → Gr [b] H H' → Bx H' b n → Q (.int r) H') : spTake [.ref b, .int m] H Q E := ⟨b, m, n, rfl, hb, h0, h1, k⟩

end
end PK
namespace PK
open PySem L2
section
variable {P : Program} {w : World} {K : PySem.W.Frag} {mg : Str → Option Value} {base : Heap}
abbrev s_law_box : Stmt := topS 5
abbrev N_law_box : List Str := ["_law_script", "_law_lap", "_law_cell", "_law_seed"]
abbrev ps_law_box : List Str := ["_law_script", "_law_lap"]
theorem sc_law_box : FnScope N_law_box ps_law_box (defScope s_law_box) := ⟨rfl, rfl, rfl, by decide +kernel, rfl, by decide +kernel, by decide +kernel⟩
def spBox (K : PySem.W.Frag) : Sp := fun vs H Q _ => ∃ (a : Addr) (ns : List Int) (i : Nat), vs = [.ref a, .int i] ∧ SqL K H a (ns.map V.int) ∧ ns.length ≤ 63 ∧ i ≤ 3 ∧
  ∀ (b : Addr) (H' : Hp), H b = none → Gr [] H H' → Bx H' b 900000 → Q (.ref b) H'
theorem has_box (D : Df K mg "_law_box" s_law_box ps_law_box) (T : Txt mg) : Has P w K mg base 1 "_law_box" ps_law_box (spBox K) := Has.mk' D fun f fd F => by
  refine F.ok sc_law_box (fun vs H Q E h => ?_) (fun cdv A outer s H vs Q E hr h => ?_)
  · obtain ⟨b, m, n, rfl, _⟩ := h
    rfl
  · obtain ⟨a, ns, i, rfl, hs, hl, hi, q⟩ := h
    refine ⟨_, (pss_cons (ps_set (i := 2) sc_law_box.nd rfl (Or.inl rfl) (pe_ifExp (pt_cmpR op_lt (pv 1) (pe_callB (call_len_seqK (K := K)) (by rfl) T.m_len (by decide +kernel) (pa_cons (pv 0) pa_nil)) (nomark _)) (pe_ix (ix_listK (K := K)) (pv 0) (pv 1) (fun _ _ => rfl)) pe_int))
(pss_cons (ps_set (i := 3) sc_law_box.nd rfl (Or.inl rfl) (pe_op op_mod (pe_callTy call_int1 (by rfl) T.m_int (by decide +kernel) (pa_cons (pe_op op_mul (pe_op op_add (pe_op op_add (pe_op op_mod (pe_callTy call_int1 (by rfl) T.m_int (by decide +kernel) (pa_cons (pv 2) pa_nil)) pe_int) (pe_op op_mul pe_int (pv 1))) pe_int) pe_int) pa_nil)) pe_int))
(pss_one (ps_ret (pe_lst (pa_cons (pe_op op_mul (pe_callB call_abs (by rfl) T.m_abs (by decide +kernel) (pa_cons (pv 2) pa_nil)) (pe_callTy call_int1 (by rfl) T.m_int (by decide +kernel) (pa_cons (pe_cmpR op_ge (pe_callB call_abs (by rfl) T.m_abs (by decide +kernel) (pa_cons (pv 2) pa_nil)) (pe_op op_pow pe_int pe_int) (nomark _)) pa_nil))) (pa_cons (pv 3) (pa_cons pe_int pa_nil)))))))), ?_⟩
    walk_at "w"
    refine WK.w_gen (fun v H' => H' = H ∧ ∃ z, v = V.int z) ?_ (fun Q0 q0 => ?_)
    · rintro _ _ ⟨rfl, z, rfl⟩
      walk_at "w"
      generalize hx : (if z < 0 then -z else z) = x
      generalize hk : (if decide ((10 : Int) ^ Int.toNat 18 ≤ x) = true then (1 : Int) else 0) = y
      have x0 : 0 ≤ x := by rw [← hx]; split <;> omega
      have y0 : 0 ≤ y ∧ y ≤ 1 := by rw [← hk]; split <;> omega
      have hm : CMul x y := .inr ⟨by omega, by omega⟩
      walk_at "w"
      refine ⟨by show 3 ≤ sizeLine; decide, fun b nb => q b _ nb (Gr.new nb) ⟨x * y, _, 0, upd_same, Int.mul_nonneg x0 y0.1, Int.emod_nonneg _ (by omega), Int.emod_lt_of_pos _ (by omega), by omega, by omega⟩⟩
    walk_at "i"
    refine ⟨a, _, rfl, .inl hs, ?_⟩
    walk_at "w"
    refine WK.w_2 (fun h => ?_) (fun h => ?_)
    · walk_at "w"
      rw [List.length_map] at h
      have e : ns[i]? = some ns[i] := List.getElem?_eq_getElem (by omega)
      exact ⟨a, _, i, .int ns[i], rfl, rfl, hs, atI_nat (by rw [List.getElem?_map, e]; rfl), q0 _ _ ⟨rfl, _, rfl⟩⟩
    · walk_at "w"
      exact q0 _ _ ⟨rfl, _, rfl⟩

end
end PK
namespace PK
open PySem L2
section
variable {P : Program} {w : World} {K : PySem.W.Frag} {mg : Str → Option Value} {base : Heap}
abbrev s_law_of : Stmt := topS 7
abbrev N_law_of : List Str := ["_law_box_here", "_law_some"]
abbrev ps_law_of : List Str := ["_law_box_here", "_law_some"]
theorem sc_law_of : FnScope N_law_of ps_law_of (defScope s_law_of) := ⟨rfl, rfl, rfl, by decide +kernel, rfl, by decide +kernel, by decide +kernel⟩
def spOf : Sp := fun vs H Q _ => ∃ (b l : Addr) (xs : List V) (n : Nat), vs = [.ref b, .ref l] ∧ Bx H b (n + 1) ∧ H l = some (.lst xs) ∧ l ≠ b ∧ xs ≠ [] ∧ xs.length ≤ 1000 ∧
  ∀ (j : Nat) (x : V) (H' : Hp), xs[j]? = some x → Gr [b] H H' → Bx H' b n → Q x H'
theorem has_of (D : Df K mg "_law_of" s_law_of ps_law_of) (T : Txt mg) (G_law_take : Has P w K mg base 1 "_law_take" ps_law_take spTake) : Has P w K mg base 2 "_law_of" ps_law_of spOf := Has.mk' D fun f fd F => by
  refine F.ok sc_law_of (fun vs H Q E h => ?_) (fun cdv A outer s H vs Q E hr h => ?_)
  · obtain ⟨b, l, xs, n, rfl, _⟩ := h
    rfl
  · obtain ⟨b, l, xs, n, rfl, hb, hl, nb, ne, hz, q⟩ := h
    refine ⟨_, (pss_one (ps_ret (pe_ix (ix_listK (K := K)) (pv 1) (pe_callH G_law_take (hr.mono (by decide)) (by rfl) (pa_cons (pv 0) (pa_cons (pe_callB (call_len_seqK (K := K)) (by rfl) T.m_len (by decide +kernel) (pa_cons (pv 1) pa_nil)) pa_nil))) (fun _ _ => rfl)))), ?_⟩
    walk_at "w"
    have l0 : 0 < xs.length := List.length_pos_iff.mpr ne
    refine ⟨b, _, n, rfl, hb, by omega, by omega, fun r H1 r0 r1 g hb1 => ?_⟩
    have e : xs[r.toNat]? = some xs[r.toNat] := List.getElem?_eq_getElem (by omega)
    exact ⟨l, xs, r, _, rfl, rfl, SqL.of (g.k1 hl nb), at_of (by omega) e, q _ _ _ e g hb1⟩
theorem use_of {H : Hp} {Q : VK} {E : XK} {b l : Addr} {xs : List V} {n : Nat} (hb : Bx H b (n + 1)) (hl : H l = some (.lst xs)) (nb : l ≠ b) (ne : xs ≠ []) (hz : xs.length ≤ 1000) (k : ∀ (j : Nat) (x : V) (H' : Hp), xs[j]? = some x → Gr [b] H H' → Bx H' b n → Q x H') : spOf [.ref b, .ref l] H Q E := ⟨b, l, xs, n, rfl, hb, hl, nb, ne, hz, k⟩

end
end PK
namespace PK
open PySem L2
section
variable {P : Program} {w : World} {K : PySem.W.Frag} {mg : Str → Option Value} {base : Heap}
abbrev s_law_event : Stmt := topS 10
abbrev N_law_event : List Str := ["_law_box_here", "_law_w", "_law_folk", "_law_names", "_law_words", "_law_way", "_law_p", "_law_key_so", "_law_gap"]
abbrev ps_law_event : List Str := ["_law_box_here", "_law_w", "_law_folk", "_law_names", "_law_words"]
theorem sc_law_event : FnScope N_law_event ps_law_event (defScope s_law_event) := ⟨rfl, rfl, rfl, by decide +kernel, rfl, by decide +kernel, by decide +kernel⟩
def spEvent : Sp := fun vs H Q _ => ∃ (b w sd cl nl : Addr) (st : WS) (n m : Nat) (folk : Int) (names : List Str) (words : Str), vs = [.ref b, .ref w, .int folk, .ref nl, .str words] ∧
  Bx H b (m + 5) ∧ WAt H w sd cl st n ∧ n ≤ 1000 ∧ b ≠ cl ∧ 1 ≤ folk ∧ folk ≤ 4 ∧ H nl = some (.lst (names.map V.str)) ∧ nl ≠ b ∧ names ≠ [] ∧ names.length ≤ 100 ∧ (∀ k ∈ names, KeyOk k) ∧ 0 < words.length ∧ words.length ≤ 100 ∧ 0 ≤ st.many ∧ st.many ≤ 1000 ∧ (∀ r p, st.seats r = some p → 0 ≤ p) ∧
  ∀ (v : V) (H' : Hp), Gr [b] H H' → Bx H' b m → (v = .non ∨ ∃ e : Ev, IsEv H' v e ∧ st.fits e ∧ e.ok) → Q v H'
theorem has_event (D : Df K mg "_law_event" s_law_event ps_law_event) (T : Txt mg) (G_law_take : Has P w K mg base 1 "_law_take" ps_law_take spTake) (G_law_of : Has P w K mg base 2 "_law_of" ps_law_of spOf) :
    Has P w K mg base 3 "_law_event" ps_law_event spEvent := Has.mk' D fun f fd F => by
  refine F.ok sc_law_event (fun vs H Q E h => ?_) (fun cdv A outer s H vs Q E hr h => ?_)
  · obtain ⟨b, w, sd, cl, nl, st, n, m, folk, names, words, rfl, _⟩ := h
    rfl
  · obtain ⟨b, wa, sd, cl, nl, st, n, m, folk, names, words, rfl, hb, hw, hn, nbc, f1, f2, hnl, nnb, ne, nlen, hkeys, wl0, wl1, m0, m1, hsp, q⟩ := h
    have hwz : words.length ≤ sizeLine := Nat.le_trans wl1 (by decide)
    obtain ⟨bl, hbl⟩ := hb.lst
    have nbw : b ≠ wa := ne_of hbl hw.w (by intro z; cases z)
    have nbs : b ≠ sd := by
      obtain ⟨kvs, ks, hs, _⟩ := hw.s
      exact ne_of hbl hs (by intro z; cases z)
    refine ⟨_, (pss_cons (ps_par3 (i := 5) (j := 6) (l := 7) (by rfl) sc_law_event.nd rfl rfl rfl (by decide) (by decide) (by decide) rfl rfl rfl (pa_cons (pe_ix ix_str (pv 4) (pe_callH G_law_take (hr.mono (by decide)) (by rfl) (pa_cons (pv 0) (pa_cons (pe_callB call_len_str (by rfl) T.m_len (by decide +kernel) (pa_cons (pv 4) pa_nil)) pa_nil))) (fun _ _ => rfl)) (pa_cons (pe_callH G_law_take (hr.mono (by decide)) (by rfl) (pa_cons (pv 0) (pa_cons (pv 2) pa_nil))) (pa_cons (pe_callH G_law_of (hr.mono (by decide)) (by rfl) (pa_cons (pv 0) (pa_cons (pv 3) pa_nil))) pa_nil))) (by rfl))
(pss_cons (ps_if (pt_cmpR op_eq (pv 5) pe_str (nomark _))
  (pss_one (ps_ret (pe_tup (pa_cons pe_str (pa_cons (pv 7) (pa_cons (pe_callH G_law_take (hr.mono (by decide)) (by rfl) (pa_cons (pv 0) (pa_cons pe_int pa_nil))) pa_nil))))))
  pss_nil)
(pss_cons (ps_if (pt_cmpR (op_in_seqK (K := K)) (pv 5) (pe_tup (pa_cons pe_str (pa_cons pe_str pa_nil))) (by rfl))
  (pss_one (ps_ret (pe_ifExp (pt_cmpR op_eq (pv 5) pe_str (nomark _)) (pe_tup (pa_cons pe_str (pa_cons (pv 7) pa_nil))) (pe_tup (pa_cons pe_str pa_nil)))))
  pss_nil)
(pss_cons (ps_if (pt_cmpR op_eq (pv 5) pe_str (nomark _))
  (pss_one (ps_ret (pe_tup (pa_cons pe_str (pa_cons (pv 6) pa_nil)))))
  pss_nil)
(pss_cons (ps_if (pt_cmpR op_eq (pv 5) pe_str (nomark _))
  (pss_one (ps_ret (pe_ifExp (pt_cmpR (op_neDK (K := K) hr.units) (pe_dget (hu_of hr) (pv 1) pe_str (fun _ _ => rfl)) (pe_lst pa_nil) (nomark _)) (pe_tup (pa_cons pe_str (pa_cons (pv 6) (pa_cons (pe_callH G_law_take (hr.mono (by decide)) (by rfl) (pa_cons (pv 0) (pa_cons (pe_callB (call_len_seqK (K := K)) (by rfl) T.m_len (by decide +kernel) (pa_cons (pe_dget (hu_of hr) (pv 1) pe_str (fun _ _ => rfl)) pa_nil)) pa_nil))) pa_nil)))) pe_non)))
  pss_nil)
(pss_cons (ps_if (pt_cmp (pc_dnotin (hu_of hr) (pv 6) (pe_dget (hu_of hr) (pv 1) pe_str (fun _ _ => rfl))))
  (pss_one (ps_ret (pe_tup (pa_cons pe_str (pa_cons (pv 6) pa_nil)))))
  pss_nil)
(pss_cons (ps_if (pt_cmpR op_eq (pv 5) pe_str (nomark _))
  (pss_one (ps_ret (pe_tup (pa_cons pe_str (pa_cons (pv 6) pa_nil)))))
  pss_nil)
(pss_cons (ps_set (i := 8) sc_law_event.nd rfl (Or.inl rfl) (pe_op op_sub (pe_dget (hu_of hr) (pv 1) pe_str (fun _ _ => rfl)) (pe_dget (hu_of hr) (pe_dget (hu_of hr) (pv 1) pe_str (fun _ _ => rfl)) (pv 6) (fun _ _ => rfl))))
(pss_one (ps_ret (pe_ifExp (pt_cmpR op_gt (pv 8) pe_int (nomark _)) (pe_tup (pa_cons pe_str (pa_cons (pv 6) (pa_cons (pe_op op_add (pe_op op_add (pe_dget (hu_of hr) (pe_dget (hu_of hr) (pv 1) pe_str (fun _ _ => rfl)) (pv 6) (fun _ _ => rfl)) pe_int) (pe_callH G_law_take (hr.mono (by decide)) (by rfl) (pa_cons (pv 0) (pa_cons (pv 8) pa_nil)))) pa_nil)))) pe_non))))))))))), ?_⟩
    walk_at "w"
    refine ⟨_, rfl, hwz, ?_⟩
    walk_at "w"
    refine use_take hb (by omega) (by omega) (fun r1 H1 r10 r11 g1 hb1 => ?_)
    refine ⟨words, r1, _, rfl, rfl, hwz, WK.at_ofG (j := r1.toNat) (by omega) (List.getElem?_eq_getElem (show r1.toNat < words.cps.toList.length by rw [Array.length_toList]; show r1.toNat < words.length; omega)), ?_⟩
    walk_at "w"
    refine use_take hb1 (by omega) (by omega) (fun p H2 p0 p1 g2 hb2 => ?_)
    walk_at "w"
    have hnl2 := g2.k1 (g1.k1 hnl nnb) nnb
    refine use_of hb2 hnl2 nnb (by simpa using ne) (by rw [List.length_map]; omega) (fun j key H3 hj g3 hb3 => ?_)
    obtain ⟨ky, hky, rfl⟩ : ∃ ky, ky ∈ names ∧ key = V.str ky := by
      rw [List.getElem?_map] at hj
      cases e : names[j]? with
      | none => rw [e] at hj; cases hj
      | some z => rw [e] at hj; exact ⟨z, List.mem_of_getElem? e, (Option.some.inj hj).symm⟩
    have g03 : Gr [b] H H3 := (g1.trans g2).trans g3
    have hw3 : WAt H3 wa sd cl st n := hw.keep g03 (by simpa using nbw.symm) (by simpa using nbs.symm) (by simpa using nbc.symm)
    clear hj hb2 hb1 hb g1 g2 g3 hnl2
    walk_at "w"
    walk_at "i"
    refine WK.w_2 (fun h1 => ?_) (fun h1 => ?_)
    · walk_at "w"
      refine use_take (n := m) (hb3.mono (by omega)) (by omega) (by omega) (fun x H4 x0 x1 g4 hb4 => ?_)
      walk_at "w"
      refine ⟨WK.sz, fun p np => ?_⟩
      exact q _ _ ((g03.trans g4).trans (Gr.new np)) (hb4.keep (Gr.new (M := []) np) (by simp)) (.inr ⟨.put ky x, ⟨p, rfl, upd_same⟩, True.intro, hkeys _ hky, x0, x1⟩)
    walk_at "w"
    walk_at "i"
    refine ⟨WK.sz, fun t nt => ?_⟩
    have g04 : Gr [b] H (upd H3 t (.tup [V.str "d", V.str "w"])) := g03.trans (Gr.new nt)
    have hb4 : Bx (upd H3 t (.tup [V.str "d", V.str "w"])) b (m + 2) := hb3.keep (Gr.new (M := []) nt) (by simp)
    have hw4 : WAt (upd H3 t (.tup [V.str "d", V.str "w"])) wa sd cl st n := hw3.keep (Gr.new (M := []) nt) (by simp) (by simp) (by simp)
    have ht4 : (upd H3 t (.tup [V.str "d", V.str "w"])) t = some (.tup [V.str "d", V.str "w"]) := upd_same
    clear hw3 hb3 g03
    generalize (upd H3 t (.tup [V.str "d", V.str "w"])) = H4 at *
    walk_at "w"
    refine ite2 (fun h2 => ?_) (fun h2 => ?_)
    · walk_at "w"
      walk_at "i"
      refine WK.w_2 (fun h3 => ?_) (fun h3 => ?_)
      · walk_at "w"
        refine ⟨WK.sz, fun p np => ?_⟩
        exact q _ _ (g04.trans (Gr.new np)) ((hb4.keep (Gr.new (M := []) np) (by simp)).mono (by omega)) (.inr ⟨.drop ky, ⟨p, rfl, upd_same⟩, True.intro, hkeys _ hky⟩)
      · walk_at "w"
        refine ⟨WK.sz, fun p np => ?_⟩
        exact q _ _ (g04.trans (Gr.new np)) ((hb4.keep (Gr.new (M := []) np) (by simp)).mono (by omega)) (.inr ⟨.wait, ⟨p, rfl, upd_same⟩, True.intro, True.intro⟩)
    walk_at "w"
    walk_at "i"
    refine WK.w_2 (fun h3 => ?_) (fun h3 => ?_)
    · walk_at "w"
      refine ⟨WK.sz, fun z np => ?_⟩
      exact q _ _ (g04.trans (Gr.new np)) ((hb4.keep (Gr.new (M := []) np) (by simp)).mono (by omega)) (.inr ⟨.join p, ⟨z, rfl, upd_same⟩, True.intro, p0, by omega⟩)
    walk_at "w"
    walk_at "i"
    refine WK.w_2 (fun h4 => ?_) (fun h4 => ?_)
    · walk_at "w"
      walk_at "i"
      refine ⟨_, _, rfl, hw4.g_copies, ?_⟩
      walk_at "w"
      refine ⟨WK.sz, fun z nz => ?_⟩
      have g5 : Gr [] H4 (upd H4 z (.lst [])) := Gr.new nz
      have hw5 := hw4.keep g5 (by simp) (by simp) (by simp)
      have hb5 := hb4.keep g5 (by simp)
      have g05 := g04.trans (g5.mono (by simp))
      have hz5 : (upd H4 z (.lst [])) z = some (.lst []) := upd_same
      generalize (upd H4 z (.lst [])) = H5 at *
      refine w_neNil (n := 0) (SqL.of hw5.c) (dp_ints _) (.ints _) (by decide) hz5 ?_
      walk_at "w"
      refine ite2 (fun h5 => ?_) (fun h5 => ?_)
      · have hc : 0 < st.copies.length := by
          cases e : st.copies with
          | nil => rw [e] at h5; simp at h5
          | cons x y => simp
        have hcn := hw5.cn
        walk_at "w"
        refine ⟨_, _, rfl, hw5.g_copies, ?_⟩
        refine ⟨_, _, rfl, .inl (SqL.of hw5.c), ?_⟩
        walk_at "w"
        refine use_take (n := m) (hb5.mono (by omega)) (by rw [List.length_map]; omega) (by rw [List.length_map]; omega) (fun x H6 x0 x1 g6 hb6 => ?_)
        rw [List.length_map] at x1
        walk_at "w"
        refine ⟨WK.sz, fun y ny => ?_⟩
        exact q _ _ ((g05.trans g6).trans (Gr.new ny)) ((hb6.keep (Gr.new (M := []) ny) (by simp)).mono (by omega)) (.inr ⟨.load p x, ⟨y, rfl, upd_same⟩, ⟨x0, x1⟩, ⟨p0, by omega⟩, x0⟩)
      · walk_at "w"
        exact q _ _ g05 (hb5.mono (by omega)) (.inl rfl)
    walk_at "w"
    walk_at "i"
    refine ⟨_, _, rfl, hw4.g_seats, ?_⟩
    refine ⟨_, _, rfl, hw4.g_seat p, ?_⟩
    walk_at "w"
    cases hsp' : st.seats p with
    | none =>
      refine WK.w_ifP (by rfl) ?_
      walk_at "w"
      refine ⟨WK.sz, fun z np => ?_⟩
      exact q _ _ (g04.trans (Gr.new np)) ((hb4.keep (Gr.new (M := []) np) (by simp)).mono (by omega)) (.inr ⟨.join p, ⟨z, rfl, upd_same⟩, True.intro, p0, by omega⟩)
    | some pl =>
      refine WK.w_ifN (by simp) ?_
      walk_at "w"
      walk_at "i"
      refine WK.w_2 (fun h5 => ?_) (fun h5 => ?_)
      · walk_at "w"
        refine ⟨WK.sz, fun z np => ?_⟩
        exact q _ _ (g04.trans (Gr.new np)) ((hb4.keep (Gr.new (M := []) np) (by simp)).mono (by omega)) (.inr ⟨.save p, ⟨z, rfl, upd_same⟩, ⟨pl, hsp'⟩, p0, by omega⟩)
      walk_at "w"
      have hg := hw4.g_seat p
      rw [hsp'] at hg
      refine ⟨_, _, rfl, hw4.g_many, ?_⟩
      walk_at "w"
      refine ⟨_, _, rfl, hw4.g_seats, ?_⟩
      walk_at "w"
      refine ⟨_, _, rfl, hg, ?_⟩
      walk_at "w"
      walk_at "i"
      have pl0 := hsp p pl hsp'
      refine WK.w_2 (fun h6 => ?_) (fun h6 => ?_)
      · walk_at "w"
        refine ⟨_, _, rfl, hw4.g_seats, ?_⟩
        walk_at "w"
        refine ⟨_, _, rfl, hg, ?_⟩
        walk_at "w"
        refine use_take (n := m) (hb4.mono (by omega)) (by omega) (by omega) (fun x H6 x0 x1 g6 hb6 => ?_)
        walk_at "w"
        refine ⟨WK.sz, fun y ny => ?_⟩
        exact q _ _ ((g04.trans g6).trans (Gr.new ny)) ((hb6.keep (Gr.new (M := []) ny) (by simp)).mono (by omega)) (.inr ⟨.read p (pl + 1 + x), ⟨y, rfl, upd_same⟩, ⟨pl, hsp', by omega, by omega⟩, ⟨p0, by omega⟩, by omega⟩)
      · walk_at "w"
        exact q _ _ g04 (hb4.mono (by omega)) (.inl rfl)

end
end PK
namespace PK
open PySem L2
section
variable {P : Program} {w : World} {K : PySem.W.Frag} {mg : Str → Option Value} {base : Heap}
abbrev s_law_moved : Stmt := topS 11
abbrev N_law_moved : List Str := ["_law_w", "_law_event_so", "_law_word"]
abbrev ps_law_moved : List Str := ["_law_w", "_law_event_so"]
theorem sc_law_moved : FnScope N_law_moved ps_law_moved (defScope s_law_moved) := ⟨rfl, rfl, rfl, by decide +kernel, rfl, by decide +kernel, by decide +kernel⟩
def spMoved : Sp := fun vs H Q _ => ∃ (w sd cl : Addr) (st : WS) (n : Nat) (v : V) (e : Ev), vs = [.ref w, v] ∧ WAt H w sd cl st n ∧ n ≤ 1000 ∧ IsEv H v e ∧ st.fits e ∧
  ∀ H' : Hp, Gr [w, sd, cl] H H' → WAt H' w sd cl (st.step e) (n + 1) → Q .non H'
theorem has_moved (D : Df K mg "_law_moved" s_law_moved ps_law_moved) (T : Txt mg) : Has P w K mg base 1 "_law_moved" ps_law_moved spMoved := Has.mk' D fun f fd F => by
  refine F.ok sc_law_moved (fun vs H Q E h => ?_) (fun cdv A outer s H vs Q E hr h => ?_)
  · obtain ⟨w, sd, cl, st, n, v, e, rfl, _⟩ := h
    rfl
  · obtain ⟨wa, sd, cl, st, n, _, e, rfl, hw, hn, ⟨a, rfl, ha⟩, hf, q⟩ := h
    refine ⟨_, (pss_cons (ps_set (i := 2) sc_law_moved.nd rfl (Or.inl rfl) (pe_ix (ix_tupK (K := K)) (pv 1) pe_int (fun _ _ => rfl)))
(pss_one (ps_if (pt_cmpR (op_in_seqK (K := K)) (pv 2) (pe_tup (pa_cons pe_str (pa_cons pe_str pa_nil))) (by rfl))
  (pss_one (ps_dput (hu_of hr) (pv 0) pe_str (pe_op op_add (pe_dget (hu_of hr) (pv 0) pe_str (fun _ _ => rfl)) pe_int) rfl))
  (pss_one (ps_if (pt_cmpR op_eq (pv 2) pe_str (nomark _))
    (pss_one (ps_dput (hu_of hr) (pe_dget (hu_of hr) (pv 0) pe_str (fun _ _ => rfl)) (pe_ix (ix_tupK (K := K)) (pv 1) pe_int (fun _ _ => rfl)) pe_int rfl))
    (pss_one (ps_if (pt_cmpR op_eq (pv 2) pe_str (nomark _))
      (pss_one (ps_dput (hu_of hr) (pe_dget (hu_of hr) (pv 0) pe_str (fun _ _ => rfl)) (pe_ix (ix_tupK (K := K)) (pv 1) pe_int (fun _ _ => rfl)) (pe_ix (ix_tupK (K := K)) (pv 1) pe_int (fun _ _ => rfl)) rfl))
      (pss_one (ps_if (pt_cmpR op_eq (pv 2) pe_str (nomark _))
        (pss_one (ps_expr (pe_bm PySem.F.plainAttrs_list PySem.F.slot_list_append PySem.F.type_list_append mt_append (pe_dget (hu_of hr) (pv 0) pe_str (fun _ _ => rfl)) (pa_cons (pe_dget (hu_of hr) (pe_dget (hu_of hr) (pv 0) pe_str (fun _ _ => rfl)) (pe_ix (ix_tupK (K := K)) (pv 1) pe_int (fun _ _ => rfl)) (fun _ _ => rfl)) pa_nil))))
        (pss_one (ps_if (pt_cmpR op_eq (pv 2) pe_str (nomark _))
          (pss_one (ps_dput (hu_of hr) (pe_dget (hu_of hr) (pv 0) pe_str (fun _ _ => rfl)) (pe_ix (ix_tupK (K := K)) (pv 1) pe_int (fun _ _ => rfl)) (pe_ix (ix_listK (K := K)) (pe_dget (hu_of hr) (pv 0) pe_str (fun _ _ => rfl)) (pe_ix (ix_tupK (K := K)) (pv 1) pe_int (fun _ _ => rfl)) (fun _ _ => rfl)) rfl))
          pss_nil))))))))))), ?_⟩
    have fl : ∀ (p : Addr), H p = none → ∀ o, Gr [wa, sd, cl] H (upd H p o) := fun p np o => Gr.new np
    cases e with
    | put k v =>
      walk_at "w"
      walk_at "i"
      refine ⟨WK.sz, fun t nt => ?_⟩
      walk_at "w"
      refine WK.w_ifP (by decide +kernel) ?_
      walk_at "w"
      have h1 := hw.keep (Gr.new (M := []) (o := .tup [V.str "put", V.str "drop"]) nt) (by simp) (by simp) (by simp)
      refine ⟨_, _, rfl, h1.g_many, ?_⟩
      walk_at "w"
      refine ⟨_, _, rfl, h1.p_many _, ?_⟩
      exact q _ ((Gr.new nt).trans (Gr.mutD h1.w (by simp))) ((h1.many _).mono (by omega))
    | drop k =>
      walk_at "w"
      walk_at "i"
      refine ⟨WK.sz, fun t nt => ?_⟩
      walk_at "w"
      refine WK.w_ifP (by decide +kernel) ?_
      walk_at "w"
      have h1 := hw.keep (Gr.new (M := []) (o := .tup [V.str "put", V.str "drop"]) nt) (by simp) (by simp) (by simp)
      refine ⟨_, _, rfl, h1.g_many, ?_⟩
      walk_at "w"
      refine ⟨_, _, rfl, h1.p_many _, ?_⟩
      exact q _ ((Gr.new nt).trans (Gr.mutD h1.w (by simp))) ((h1.many _).mono (by omega))
    | join r => 
      walk_at "w"
      walk_at "i"
      refine ⟨WK.sz, fun t nt => ?_⟩
      walk_at "w"
      refine WK.w_ifN (by decide +kernel) ?_
      have h1 := hw.keep (Gr.new (M := []) (o := .tup [V.str "put", V.str "drop"]) nt) (by simp) (by simp) (by simp)
      have a1 := (Gr.new (M := []) (o := .tup [V.str "put", V.str "drop"]) nt).tup a _ ha
      walk_at "i"
      refine WK.w_ifP (by decide +kernel) ?_
      walk_at "w"
      refine ⟨_, _, rfl, h1.g_seats, ?_⟩
      walk_at "w"
      obtain ⟨o, d, h2, g2⟩ := h1.p_seat hn r 0
      refine ⟨_, _, rfl, d, ?_⟩
      exact q _ ((Gr.new nt).trans g2) h2
    | read r u => 
      walk_at "w"
      walk_at "i"
      refine ⟨WK.sz, fun t nt => ?_⟩
      walk_at "w"
      refine WK.w_ifN (by decide +kernel) ?_
      have h1 := hw.keep (Gr.new (M := []) (o := .tup [V.str "put", V.str "drop"]) nt) (by simp) (by simp) (by simp)
      have a1 := (Gr.new (M := []) (o := .tup [V.str "put", V.str "drop"]) nt).tup a _ ha
      walk_at "i"
      refine WK.w_ifN (by decide +kernel) ?_
      walk_at "i"
      refine WK.w_ifP (by decide +kernel) ?_
      walk_at "w"
      refine ⟨_, _, rfl, h1.g_seats, ?_⟩
      walk_at "w"
      obtain ⟨o, d, h2, g2⟩ := h1.p_seat hn r u
      refine ⟨_, _, rfl, d, ?_⟩
      exact q _ ((Gr.new nt).trans g2) h2
    | save r =>
      walk_at "w"
      walk_at "i"
      refine ⟨WK.sz, fun t nt => ?_⟩
      walk_at "w"
      refine WK.w_ifN (by decide +kernel) ?_
      have h1 := hw.keep (Gr.new (M := []) (o := .tup [V.str "put", V.str "drop"]) nt) (by simp) (by simp) (by simp)
      have a1 := (Gr.new (M := []) (o := .tup [V.str "put", V.str "drop"]) nt).tup a _ ha
      walk_at "i"
      refine WK.w_ifN (by decide +kernel) ?_
      walk_at "i"
      refine WK.w_ifN (by decide +kernel) ?_
      walk_at "i"
      refine WK.w_ifP (by decide +kernel) ?_
      walk_at "w"
      refine ⟨_, _, rfl, h1.g_copies, ?_⟩
      refine ⟨.inl ⟨rfl, _, SqL.of h1.c⟩, ?_⟩
      walk_at "w"
      refine ⟨_, _, rfl, h1.g_seats, ?_⟩
      walk_at "w"
      obtain ⟨p, hp⟩ := hf
      have hg := h1.g_seat r
      rw [hp] at hg
      refine ⟨_, _, rfl, hg, ?_⟩
      walk_at "w"
      have hcn := h1.cn
      refine ⟨cl, _, _, rfl, rfl, h1.c, WK.sz' (by rw [List.length_map]; omega), ?_⟩
      refine q _ ((Gr.new nt).trans (Gr.mutL h1.c (by simp))) ⟨?_, ?_, ?_, ?_⟩
      · rw [upd_ne h1.ne2]; exact h1.w
      · obtain ⟨kvs, ks, hs, r1, r2, r3, r4⟩ := h1.s
        exact ⟨kvs, ks, by rw [upd_ne h1.ne3]; exact hs, r1, r2, by omega, r4⟩
      · rw [upd_same]
        show _ = some (HO.lst (List.map V.int (st.copies ++ [(st.seats r).getD 0])))
        rw [hp, List.map_append]
        rfl
      · show (st.copies ++ [(st.seats r).getD 0]).length ≤ n + 1
        rw [List.length_append, List.length_singleton]
        omega
    | load r c =>
      walk_at "w"
      walk_at "i"
      refine ⟨WK.sz, fun t nt => ?_⟩
      walk_at "w"
      refine WK.w_ifN (by decide +kernel) ?_
      have h1 := hw.keep (Gr.new (M := []) (o := .tup [V.str "put", V.str "drop"]) nt) (by simp) (by simp) (by simp)
      have a1 := (Gr.new (M := []) (o := .tup [V.str "put", V.str "drop"]) nt).tup a _ ha
      walk_at "i"
      refine WK.w_ifN (by decide +kernel) ?_
      walk_at "i"
      refine WK.w_ifN (by decide +kernel) ?_
      walk_at "i"
      refine WK.w_ifN (by decide +kernel) ?_
      walk_at "i"
      refine WK.w_ifP (by decide +kernel) ?_
      walk_at "w"
      obtain ⟨c0, c1⟩ := hf
      refine ⟨_, _, rfl, h1.g_copies, ?_⟩
      walk_at "w"
      have e : st.copies[c.toNat]? = some (st.copies.getD c.toNat 0) := by
        rw [List.getD_eq_getElem?_getD, List.getElem?_eq_getElem (by omega)]
        rfl
      refine ⟨cl, _, c, .int (st.copies.getD c.toNat 0), rfl, rfl, SqL.of h1.c, WK.at_ofG (j := c.toNat) (by omega) (by rw [List.getElem?_map, e]; rfl), ?_⟩
      walk_at "w"
      refine ⟨_, _, rfl, h1.g_seats, ?_⟩
      walk_at "w"
      obtain ⟨o, d, h2, g2⟩ := h1.p_seat hn r (st.copies.getD c.toNat 0)
      refine ⟨_, _, rfl, d, ?_⟩
      exact q _ ((Gr.new nt).trans g2) h2
    | wait =>
      walk_at "w"
      walk_at "i"
      refine ⟨WK.sz, fun t nt => ?_⟩
      walk_at "w"
      refine WK.w_ifN (by decide +kernel) ?_
      have h1 := hw.keep (Gr.new (M := []) (o := .tup [V.str "put", V.str "drop"]) nt) (by simp) (by simp) (by simp)
      have a1 := (Gr.new (M := []) (o := .tup [V.str "put", V.str "drop"]) nt).tup a _ ha
      walk_at "i"
      refine WK.w_ifN (by decide +kernel) ?_
      walk_at "i"
      refine WK.w_ifN (by decide +kernel) ?_
      walk_at "i"
      refine WK.w_ifN (by decide +kernel) ?_
      walk_at "i"
      refine WK.w_ifN (by decide +kernel) ?_
      walk_at "w"
      exact q _ (Gr.new nt) (h1.mono (by omega))
theorem use_moved {H : Hp} {Q : VK} {E : XK} {w sd cl : Addr} {st : WS} {n : Nat} {v : V} {e : Ev} (hw : WAt H w sd cl st n) (hn : n ≤ 1000) (he : IsEv H v e) (hf : st.fits e) (k : ∀ H' : Hp, Gr [w, sd, cl] H H' → WAt H' w sd cl (st.step e) (n + 1) → Q .non H') : spMoved [.ref w, v] H Q E := ⟨w, sd, cl, st, n, v, e, rfl, hw, hn, he, hf, k⟩

end
end PK
namespace PK
open PySem L2
section
variable {P : Program} {w : World} {K : PySem.W.Frag} {mg : Str → Option Value} {base : Heap}
abbrev s_law_table : Stmt := topS 12
abbrev N_law_table : List Str := ["_law_box_here", "_law_many", "_law_most", "_law_folk", "_law_names", "_law_words", "_law_found", "_law_w", "_law_turn", "_law_event_so", "_law_is_full"]
abbrev ps_law_table : List Str := ["_law_box_here", "_law_many", "_law_most", "_law_folk", "_law_names", "_law_words"]
theorem sc_law_table : FnScope N_law_table ps_law_table (defScope s_law_table) := ⟨rfl, rfl, rfl, by decide +kernel, rfl, by decide +kernel, by decide +kernel⟩
structure TbAt (H0 H : Hp) (b L w sd cl : Addr) (m i : Nat) (es : List Ev) (xs : List V) : Prop where
  g : Gr [b] H0 H
  bx : Bx H b m
  wa : WAt H w sd cl (WS.nil.run es) i
  l : H L = some (.lst xs)
  ev : Evs H xs es
  va : Valid .nil es
  ok : ∀ e ∈ es, e.ok
  len : es.length ≤ i
theorem TbAt.gr {H0 H H1 : Hp} {b L w sd cl : Addr} {m i : Nat} {es : List Ev} {xs : List V} (t : TbAt H0 H b L w sd cl m i es xs) (g : Gr [] H H1) : TbAt H0 H1 b L w sd cl m i es xs :=
  ⟨t.g.trans (g.mono (by simp)), t.bx.keep g (by simp), t.wa.keep g (by simp) (by simp) (by simp), g.k0 t.l, t.ev.gr g, t.va, t.ok, t.len⟩
def spTable : Sp := fun vs H Q _ => ∃ (b nl : Addr) (m k : Nat) (most folk : Int) (names : List Str) (words : Str), vs = [.ref b, .int k, .int most, .int folk, .ref nl, .str words] ∧
  Bx H b (m + 5 * k) ∧ k ≤ 100 ∧ 1 ≤ folk ∧ folk ≤ 4 ∧ H nl = some (.lst (names.map V.str)) ∧ nl ≠ b ∧ names ≠ [] ∧ names.length ≤ 100 ∧ (∀ k ∈ names, KeyOk k) ∧ 0 < words.length ∧ words.length ≤ 100 ∧
  ∀ (v : V) (H' : Hp) (es : List Ev), Gr [b] H H' → Bx H' b m → IsTT H' v es → Valid .nil es → (∀ e ∈ es, e.ok) → es.length ≤ k → Q v H'
theorem has_table (D : Df K mg "_law_table" s_law_table ps_law_table) (T : Txt mg) (G_law_event : Has P w K mg base 3 "_law_event" ps_law_event spEvent) (G_law_moved : Has P w K mg base 1 "_law_moved" ps_law_moved spMoved) :
    Has P w K mg base 4 "_law_table" ps_law_table spTable := Has.mk' D fun f fd F => by
  refine F.ok sc_law_table (fun vs H Q E h => ?_) (fun cdv A outer s H vs Q E hr h => ?_)
  · obtain ⟨b, nl, m, k, most, folk, names, words, rfl, _⟩ := h
    rfl
  · obtain ⟨b, nl, m, k, most, folk, names, words, rfl, hb, hk, f1, f2, hnl, nnb, ne, nlen, hkeys, wl0, wl1, q⟩ := h
    refine ⟨_, (pss_cons (ps_par (i := 6) (j := 7) (by rfl) sc_law_table.nd rfl rfl (by decide) rfl rfl (pa_cons (pe_lst pa_nil) (pa_cons (pe_disp (pps_cons pe_str pe_dnewK (pps_cons pe_str (pe_lst pa_nil) (pps_cons pe_str pe_int pps_nil))) (by rfl) (by rfl) (fun z => by cases z) (by decide)) pa_nil)) (by rfl))
(pss_cons (ps_for PassesOwn.never rfl (pi_range1 (by rfl) T.m_range (pa_cons (pv 1) pa_nil)) (pg_name (i := 8) sc_law_table.nd rfl (Or.inl rfl))
  (pss_cons (ps_set (i := 9) sc_law_table.nd rfl (Or.inl rfl) (pe_callH G_law_event (hr.mono (by decide)) (by rfl) (pa_cons (pv 0) (pa_cons (pv 7) (pa_cons (pv 3) (pa_cons (pv 4) (pa_cons (pv 5) pa_nil)))))))
  (pss_cons (ps_set (i := 10) sc_law_table.nd rfl (Or.inl rfl) (pe_and (pe_cmpR op_notN (pv 9) pe_non (nomark _)) (pe_and (pe_cmpR (op_in_seqK (K := K)) (pe_ix (ix_tupK (K := K)) (pv 9) pe_int (fun _ _ => rfl)) (pe_tup (pa_cons pe_str (pa_cons pe_str pa_nil))) (by rfl)) (pe_one (pe_cmpR op_ge (pe_dget (hu_of hr) (pv 7) pe_str (fun _ _ => rfl)) (pv 2) (nomark _))))))
  (pss_one (ps_if (PW.pt (pw_and (pt_cmpR op_notN (pv 9) pe_non (nomark _)) (pw_and (pt_not (pt_val (pv 10))) (pw_and1 (PW.pt (pw_or (pt_cmpR op_ne (pe_ix (ix_tupK (K := K)) (pv 9) pe_int (fun _ _ => rfl)) pe_str (nomark _)) (pw_or1 (pt_cmpR op_lt (pe_callB (call_len_seqK (K := K)) (by rfl) T.m_len (by decide +kernel) (pa_cons (pe_dget (hu_of hr) (pv 7) pe_str (fun _ _ => rfl)) pa_nil)) pe_int (nomark _)))))))))
    (pss_cons (ps_expr (pe_callH G_law_moved (hr.mono (by decide)) (by rfl) (pa_cons (pv 7) (pa_cons (pv 9) pa_nil))))
    (pss_one (ps_expr (pe_bm PySem.F.plainAttrs_list PySem.F.slot_list_append PySem.F.type_list_append mt_append (pv 6) (pa_cons (pv 9) pa_nil)))))
    pss_nil)))))
(pss_one (ps_ret (pe_callTy (call_tuple_ofK (K := K)) (by rfl) T.m_tuple (by decide +kernel) (pa_cons (pv 6) pa_nil)))))), ?_⟩
    walk_at "w"
    refine ⟨WK.sz, fun L nL => ?_⟩
    walk_at "w"
    refine w_wdict fun wa sd cl H1 nw ns nc g1 hw => ?_
    walk_at "w"
    have L1 : H1 L = some (.lst []) := g1.k0 upd_same
    have nwL : wa ≠ L := fun e => by rw [e, upd_same] at nw; cases nw
    have nsL : sd ≠ L := fun e => by rw [e, upd_same] at ns; cases ns
    have ncL : cl ≠ L := fun e => by rw [e, upd_same] at nc; cases nc
    have nw0 : H wa = none := by rw [upd_ne nwL] at nw; exact nw
    have ns0 : H sd = none := by rw [upd_ne nsL] at ns; exact ns
    have nc0 : H cl = none := by rw [upd_ne ncL] at nc; exact nc
    obtain ⟨bl, hbl⟩ := hb.lst
    have nbL : b ≠ L := ne_of_none hbl nL
    have nbw : b ≠ wa := ne_of_none hbl nw0
    have nbs : b ≠ sd := ne_of_none hbl ns0
    have nbc : b ≠ cl := ne_of_none hbl nc0
    have g01 : Gr [] H H1 := (Gr.new nL).trans g1
    refine ⟨by omega, by omega, lp_range (fun i σ' H' => ∃ es xs y8 y9 y10, σ' = [some (.ref b), some (.int k), some (.int most), some (.int folk), some (.ref nl), some (.str words), some (.ref L), some (.ref wa), y8, y9, y10] ∧ TbAt H H' b L wa sd cl (m + 5 * (k - i)) i es xs)
      ⟨[], [], none, none, none, rfl, g01.mono (by simp), (hb.keep g01 (by simp)).mono (by omega), hw, L1, .nil, True.intro, by simp, Nat.le_refl _⟩ ?_ ?_⟩
    · rintro i _ H2 hi ⟨es, xs, y8, y9, y10, rfl, t⟩
      have hi' : i < k := by omega
      have gd := Gd.run (es := es) Gd.nil t.ok
      have gm0 := gd.m0
      have gm1 := gd.m1
      have tl := t.len
      walk_at "w"
      refine ⟨b, wa, sd, cl, nl, WS.nil.run es, i, m + 5 * (k - (i + 1)), folk, names, words, rfl, t.bx.mono (by omega), t.wa, by omega, nbc, f1, f2, t.g.k1 hnl nnb, nnb, ne, nlen, hkeys, wl0, wl1, gm0, by omega, gd.s, fun v H3 g3 hb3 hv => ?_⟩
      have t3 : TbAt H H3 b L wa sd cl (m + 5 * (k - (i + 1))) i es xs := ⟨t.g.trans g3, hb3, t.wa.keep g3 (by simpa using nbw.symm) (by simpa using nbs.symm) (by simpa using nbc.symm), g3.k1 t.l nbL.symm, t.ev.gr g3, t.va, t.ok, t.len⟩
      clear t hb3 g3
      walk_at "w"
      refine WK.w_gen (fun u H' => Gr [] H3 H' ∧ ∃ fb, u = V.bl fb) ?_ (fun Q0 q0 => ?_)
      · rintro _ H4 ⟨g4, fb, rfl⟩
        have t4 := t3.gr g4
        have hv4 : v = .non ∨ ∃ e : Ev, IsEv H4 v e ∧ (WS.nil.run es).fits e ∧ e.ok := hv.imp id fun ⟨e, h1, h2⟩ => ⟨e, h1.gr g4, h2⟩
        clear t3 hv
        walk_at "w"
        refine WK.w_if (WK.w_genT (fun b2 H' => Gr [] H4 H' ∧ (b2 = true → v ≠ .non)) ?_ (fun R0 r0 => ?_))
        · rintro b2 H5 ⟨g5, hb2⟩
          have t5 := t4.gr g5
          cases b2 with
          | false => exact ⟨es, xs, _, _, _, rfl, t5.g, t5.bx, t5.wa.mono (Nat.le_succ _), t5.l, t5.ev, t5.va, t5.ok, Nat.le_succ_of_le t5.len⟩
          | true =>
            obtain ⟨e, he, hf, hok⟩ := hv4.resolve_left (hb2 rfl)
            have he5 := he.gr g5
            refine WK.w_ifP rfl ?_
            walk_at "w"
            refine use_moved t5.wa (by omega) he5 hf fun H6 g6 hw6 => ?_
            have l6 := g6.keep L _ (by simp [nwL.symm, nsL.symm, ncL.symm]) t5.l
            walk_at "w"
            refine ⟨.inl ⟨rfl, xs, SqL.of l6⟩, ?_⟩
            walk_at "w"
            have xl : xs.length < sizeLine := by
              rw [t5.ev.length]
              exact WK.sz' (by have := t5.len; omega)
            refine ⟨L, xs, v, rfl, rfl, l6, xl, ?_⟩
            have g7 : Gr [L] H6 (upd H6 L (.lst (xs ++ [v]))) := Gr.mutL l6 (by simp)
            refine ⟨es ++ [e], xs ++ [v], _, _, _, rfl, ?_, ?_, ?_, upd_same, ?_, valid_snoc t5.va hf, ?_, ?_⟩
            · exact ⟨fun a o na ha => g7.keep a o (by simpa using ne_of_none ha nL) (g6.keep a o (by simp [ne_of_none ha nw0, ne_of_none ha ns0, ne_of_none ha nc0]) (t5.g.keep a o na ha)), fun a zs ha => g7.tup a zs (g6.tup a zs (t5.g.tup a zs ha)), fun a o u ha => g7.fix a o u (g6.fix a o u (t5.g.fix a o u ha)), fun a ha => t5.g.live a (g6.live a (g7.live a ha))⟩
            · exact (t5.bx.keep g6 (by simp [nbw, nbs, nbc])).keep g7 (by simpa using nbL)
            · rw [run_snoc]
              exact hw6.keep g7 (by simpa using nwL) (by simpa using nsL) (by simpa using ncL)
            · exact pr_append ((t5.ev.gr g6).gr g7) (.cons ((he5.gr g6).gr g7) .nil)
            · intro x hx
              rcases List.mem_append.mp hx with z | z
              · exact t5.ok x z
              · rw [List.mem_singleton] at z
                rw [z]
                exact hok
            · rw [List.length_append, List.length_singleton]
              have := t5.len
              omega
        · walk_at "i"
          refine WK.w_2n (fun h => ?_) (fun h => r0 _ _ ⟨Gr.refl _ _, fun z => by cases z⟩)
          have yes : ∀ H5, Gr [] H4 H5 → ∀ b2 : Bool, R0 b2 H5 := fun H5 g5 b2 => r0 _ _ ⟨g5, fun _ => h⟩
          obtain ⟨e, ⟨a, rfl, ha⟩, hf, hok⟩ := hv4.resolve_left h
          walk_at "i"
          cases fb with
          | true => exact WK.w_ifN (by decide) (yes _ (Gr.refl _ _) _)
          | false =>
            refine WK.w_ifP rfl ?_
            walk_at "i"
            refine WK.w_ixT ha e.at0 ?_
            walk_at "w"
            refine WK.w_2n (fun h2 => yes _ (Gr.refl _ _) _) (fun h2 => ?_)
            walk_at "w"
            refine ⟨_, _, rfl, t4.wa.g_copies, ?_⟩
            walk_at "w"
            refine ⟨_, _, rfl, .inl (SqL.of t4.wa.c), ?_⟩
            walk_at "w"
            exact yes _ (Gr.refl _ _) _
      · walk_at "i"
        refine WK.w_2n (fun h => ?_) (fun h => ?_)
        · obtain ⟨e, ⟨a, rfl, ha⟩, hf, hok⟩ := hv.resolve_left h
          walk_at "i"
          refine WK.w_ixT ha e.at0 ?_
          walk_at "w"
          refine ⟨WK.sz, fun z nz => ?_⟩
          refine WK.w_inT upd_same rfl rfl ?_
          walk_at "w"
          have g5 : Gr [] H3 (upd H3 z (.tup [.str "put", .str "drop"])) := Gr.new nz
          refine ite2 (fun h2 => ?_) (fun h2 => q0 _ _ ⟨g5, _, rfl⟩)
          walk_at "w"
          refine ⟨_, _, rfl, (t3.gr g5).wa.g_many, ?_⟩
          walk_at "w"
          exact q0 _ _ ⟨g5, _, rfl⟩
        · exact q0 _ _ ⟨Gr.refl _ _, _, rfl⟩
    · rintro σ' H' ⟨es, xs, y8, y9, y10, rfl, t⟩
      walk_at "w"
      have hL : xs.length ≤ sizeLine := by
        rw [t.ev.length]
        exact Nat.le_trans t.len (Nat.le_trans (by omega) (by decide : 100 ≤ sizeLine))
      refine ⟨L, xs, rfl, .inl ⟨SqL.of t.l, fun p np => q _ _ es (t.g.trans (Gr.new np)) ((t.bx.keep (Gr.new (M := []) np) (by simp)).mono (by omega)) ⟨p, xs, rfl, upd_same, t.ev.gr (Gr.new (M := []) np)⟩ t.va t.ok (by have := t.len; omega)⟩⟩

end
end PK
namespace PK
open PySem L2
section
variable {P : Program} {w : World} {K : PySem.W.Frag} {mg : Str → Option Value} {base : Heap}
abbrev s_law_ended : Stmt := topS 13
abbrev N_law_ended : List Str := ["_law_table_here", "_law_w", "_law_event_so", "_law_p"]
abbrev ps_law_ended : List Str := ["_law_table_here"]
theorem sc_law_ended : FnScope N_law_ended ps_law_ended (defScope s_law_ended) := ⟨rfl, rfl, rfl, by decide +kernel, rfl, by decide +kernel, by decide +kernel⟩
def spEnded : Sp := fun vs H Q _ => ∃ (v : V) (es : List Ev), vs = [v] ∧ IsTT H v es ∧ Valid .nil es ∧ (∀ e ∈ es, e.ok) ∧ es.length ≤ 60 ∧
  ∀ (v' : V) (H' : Hp) (es' : List Ev), Gr [] H H' → IsTT H' v' es' → Valid .nil es' → (∀ e ∈ es', e.ok) → es'.length ≤ 2 * es.length → Q v' H'
theorem has_ended (D : Df K mg "_law_ended" s_law_ended ps_law_ended) (T : Txt mg) (G_law_moved : Has P w K mg base 1 "_law_moved" ps_law_moved spMoved) :
    Has P w K mg base 2 "_law_ended" ps_law_ended spEnded := Has.mk' D fun f fd F => by
  refine F.ok sc_law_ended (fun vs H Q E h => ?_) (fun cdv A outer s H vs Q E hr h => ?_)
  · obtain ⟨v, es, rfl, _⟩ := h
    rfl
  · obtain ⟨_, es, rfl, ⟨a, xs, rfl, ha, hev⟩, hva, hok, hlen, q⟩ := h
    refine ⟨_, (pss_cons (ps_set (i := 1) sc_law_ended.nd rfl (Or.inr rfl) (pe_disp (pps_cons pe_str pe_dnewK (pps_cons pe_str (pe_lst pa_nil) (pps_cons pe_str pe_int pps_nil))) (by rfl) (by rfl) (fun z => by cases z) (by decide)))
(pss_cons (ps_for PassesOwn.never rfl (pi_tup (pv 0)) (pg_name (i := 2) sc_law_ended.nd rfl (Or.inl rfl))
  (pss_one (ps_expr (pe_callH G_law_moved (hr.mono (by decide)) (by rfl) (pa_cons (pv 1) (pa_cons (pv 2) pa_nil))))))
(pss_one (ps_ret (pe_op (op_catAK (K := K)) (pv 0) (pe_callTy (call_tuple_ofK (K := K)) (by rfl) T.m_tuple (by decide +kernel) (pa_cons (pe_lc (own := [("_law_p", 3)]) (g := gName 3)  rfl sc_law_ended.nd (pi_list (pe_callB (call_sortedDI rfl) (by rfl) T.m_sorted (by decide +kernel) (pa_cons (pe_dget (hu_of hr) (pv 1) pe_str (fun _ _ => rfl)) pa_nil))) (blkOk_by (own := [("_law_p", 3)]) (N := N_law_ended) (sc := defScope s_law_ended) (by decide +kernel)) (fun _ _ _ _ _ => pg_name (i := 3) sc_law_ended.nd rfl (Or.inl rfl)) (fun _ _ _ _ _ => pts_one (pt_cmpR op_lt (pe_dget (hu_of hr) (pe_dget (hu_of hr) (pv 1) pe_str (fun _ _ => rfl)) (pv 3) (fun _ _ => rfl)) (pe_dget (hu_of hr) (pv 1) pe_str (fun _ _ => rfl)) (nomark _))) (fun _ _ _ _ _ => (pe_tup (pa_cons pe_str (pa_cons (pv 3) (pa_cons (pe_dget (hu_of hr) (pv 1) pe_str (fun _ _ => rfl)) pa_nil)))))) pa_nil))))))), ?_⟩
    walk_at "w"
    refine w_wdict fun wa sd cl H1 nw ns nc g1 hw => ?_
    walk_at "w"
    refine ⟨⟨xs, SqT.of (g1.tup _ _ ha)⟩, lp_tup (xs := xs) (fun i σ' H' => ∃ y2, σ' = [some (.ref a), some (.ref wa), y2, none] ∧ Gr [] H H' ∧ WAt H' wa sd cl (WS.nil.run (es.take i)) i)
      ⟨_, rfl, g1, hw⟩ (fun i σ' H' _ ⟨_, _, g, _⟩ => SqT.of (g.tup _ _ ha)) ?_ ?_⟩
    · rintro i x _ H2 hx ⟨y2, rfl, g2, hw2⟩
      have hi : i < xs.length := (List.getElem?_eq_some_iff.mp hx).1
      rw [hev.length] at hi
      obtain ⟨e, he, hxe⟩ := pr_get hev hx
      walk_at "w"
      refine use_moved hw2 (by omega) (hxe.gr g2) (valid_take hva i he) fun H3 g3 hw3 => ?_
      refine ⟨_, rfl, g2.sub (L := [wa, sd, cl]) g3 (by simp [nw, ns, nc]), ?_⟩
      rw [take_snoc he, run_snoc]
      exact hw3
    · rintro _ H2 ⟨y2, rfl, g2, hw2⟩
      rw [hev.length, List.take_length] at hw2
      have gd := Gd.run (es := es) Gd.nil hok
      generalize hst : WS.nil.run es = st at hw2 gd
      walk_at "w"
      refine ⟨_, _, rfl, hw2.g_seats, ?_⟩
      walk_at "w"
      obtain ⟨kvs, ks, hs, k1, k2, k3, k4, k5⟩ := hw2.s
      refine ⟨sd, kvs, ks, rfl, .inl hs, k1, by omega, fun ys l hp hsort nl => ?_⟩
      have g3 : Gr [] H2 (upd H2 l (.lst (ys.map V.int))) := Gr.new nl
      have hl3 : (upd H2 l (.lst (ys.map V.int))) l = some (.lst (ys.map V.int)) := upd_same
      have hw3 := hw2.keep g3 (by simp) (by simp) (by simp)
      have g03 := g2.trans g3
      have yn : ys.Nodup := (hp.nodup_iff).mpr k2
      have ym : ∀ r ∈ ys, ∃ p, st.seats r = some p := fun r hr => Option.isSome_iff_exists.mp ((k4 r).mp (hp.mem_iff.mp hr))
      clear hw2 g2 hs
      generalize (upd H2 l (.lst (ys.map V.int))) = H3 at *
      refine ⟨l, rfl, ⟨_, SqL.of hl3⟩, ?_⟩
      refine lc_go (walk_list (K := K) (a := l) (xs := ys.map V.int)) (fun Dn i acc H' => Gr [] H3 H' ∧ ∃ rs : List Int, rs.Sublist (ys.take i) ∧ (∀ r ∈ rs, ∃ p, st.seats r = some p ∧ p < st.many) ∧ Evs H' acc (rs.map fun r => Ev.read r st.many))
        (fun Dn nD => ⟨Gr.new nD, [], by simp, by simp, .nil⟩) (fun Dn i acc H' _ ⟨g, _⟩ => SqL.of (g.k0 hl3)) ?_ ?_
      · rintro Dn i acc x H4 H5 nD hi hD la ⟨g4, rs, r1, r2, r3⟩ ⟨e5, hx⟩
        subst e5
        rw [List.length_map] at hi
        have ey : ys[i]? = some ys[i] := List.getElem?_eq_getElem hi
        have ex : x = .int ys[i] := by
          rw [List.getElem?_map, ey] at hx
          exact (Option.some.inj hx).symm
        subst ex
        have hw4 := hw3.keep g4 (by simp) (by simp) (by simp)
        obtain ⟨p, hpp⟩ := ym ys[i] (List.getElem_mem hi)
        have hg := hw4.g_seat ys[i]
        rw [hpp] at hg
        have hts : ys.take (i + 1) = ys.take i ++ [ys[i]] := take_snoc ey
        walk_at "w"
        refine ⟨rfl, ?_⟩
        walk_at "w"
        refine ⟨_, _, rfl, hw4.g_seats, ?_⟩
        walk_at "w"
        refine ⟨_, _, rfl, hg, ?_⟩
        walk_at "w"
        refine ⟨_, _, rfl, hw4.g_many, ?_⟩
        walk_at "w"
        refine WK.w_2 (fun h => ?_) (fun h => ?_)
        · walk_at "w"
          refine ⟨_, _, rfl, hw4.g_many, ?_⟩
          walk_at "w"
          refine ⟨WK.sz, fun z nz => ?_⟩
          have gz : Gr [] H5 (upd H5 z (.tup [.str "read", .int ys[i], .int st.many])) := Gr.new nz
          have hDz := gz.k0 hD
          have gD : Gr [Dn] (upd H5 z (.tup [.str "read", .int ys[i], .int st.many])) _ := Gr.mutL (o := .lst (acc ++ [.ref z])) hDz (by simp)
          have yl : ys.length = ks.length := hp.length_eq
          refine lc_yes hDz la (by omega) ⟨(g4.trans gz).own gD nD, rs ++ [ys[i]], ?_, ?_, ?_⟩
          · rw [hts]
            exact r1.append (List.Sublist.refl _)
          · intro r hr
            rcases List.mem_append.mp hr with z' | z'
            · exact r2 r z'
            · rw [List.mem_singleton] at z'
              rw [z']
              exact ⟨p, hpp, h⟩
          · rw [List.map_append]
            exact pr_append ((r3.gr gz).gr gD) (.cons ⟨z, rfl, gD.tup _ _ upd_same⟩ .nil)
        · refine lc_no hD la ⟨g4, rs, ?_, r2, r3⟩
          rw [hts]
          exact r1.trans (List.sublist_append_left _ _)
      · rintro Dn acc H5 nD hD la ⟨g5, rs, r1, r2, r3⟩
        rw [List.length_map, List.take_length] at *
        have rn : rs.Nodup := r1.nodup yn
        have yl : ys.length = ks.length := hp.length_eq
        have rl : rs.length ≤ ys.length := r1.length_le
        have al := r3.length
        rw [List.length_map] at al
        walk_at "w"
        refine ⟨Dn, acc, rfl, .inl ⟨SqL.of hD, fun z nz => ?_⟩⟩
        have gz : Gr [] H5 (upd H5 z (.tup acc)) := Gr.new nz
        have g0z := (g03.trans g5).trans gz
        have az := g0z.tup _ _ ha
        have fin : ∀ es' : List Ev, es' = es ++ rs.map (fun r => Ev.read r st.many) → Valid .nil es' ∧ (∀ e ∈ es', e.ok) ∧ es'.length ≤ 2 * es.length := fun es' e => by
          subst e
          refine ⟨valid_append.mpr ⟨hva, by rw [hst]; exact valid_reads rn r2⟩, fun e he => ?_, ?_⟩
          · rcases List.mem_append.mp he with z | z
            · exact hok e z
            · obtain ⟨r, hr, rfl⟩ := List.mem_map.mp z
              obtain ⟨p, hp, hlt⟩ := r2 r hr
              have p0 := gd.s r p hp
              exact ⟨gd.k r p hp, by omega⟩
          · rw [List.length_append, List.length_map]
            omega
        have hxl : xs.length ≤ 60 := by rw [hev.length]; exact hlen
        refine ⟨a, z, xs, acc, rfl, rfl, SqT.of az, SqT.of upd_same, WK.sz (by omega), fun e => ?_, fun e1 e2 => ?_, fun e1 e2 y ny => ?_⟩
        · subst e
          cases hev
          obtain ⟨f1, f2, f3⟩ := fin _ rfl
          exact q _ _ _ g0z ⟨z, acc, rfl, upd_same, r3.gr gz⟩ f1 f2 f3
        · subst e2
          have : rs = [] := List.length_eq_zero_iff.mp (by simpa using al.symm)
          subst this
          exact q _ _ es g0z ⟨a, xs, rfl, az, hev.gr g0z⟩ hva hok (by omega)
        · obtain ⟨f1, f2, f3⟩ := fin _ rfl
          have gy : Gr [] (upd H5 z (.tup acc)) (upd (upd H5 z (.tup acc)) y (.tup (xs ++ acc))) := Gr.new ny
          exact q _ _ _ (g0z.trans gy) ⟨y, _, rfl, upd_same, Evs.gr (pr_append (hev.gr g0z) (r3.gr gz)) gy⟩ f1 f2 f3
theorem use_ended {H : Hp} {Q : VK} {E : XK} {v : V} {es : List Ev} (h : IsTT H v es) (hv : Valid .nil es) (ho : ∀ e ∈ es, e.ok) (hl : es.length ≤ 60) (k : ∀ (v' : V) (H' : Hp) (es' : List Ev), Gr [] H H' → IsTT H' v' es' → Valid .nil es' → (∀ e ∈ es', e.ok) → es'.length ≤ 2 * es.length → Q v' H') : spEnded [v] H Q E := ⟨v, es, rfl, h, hv, ho, hl, k⟩

end
end PK
namespace PK
open PySem L2
section
variable {P : Program} {w : World} {K : PySem.W.Frag} {mg : Str → Option Value} {base : Heap}
abbrev s_law_same : Stmt := topS 8
abbrev N_law_same : List Str := ["_law_found", "_law_due", "_law_mine", "_law_its"]
abbrev ps_law_same : List Str := ["_law_found", "_law_due"]
theorem sc_law_same : FnScope N_law_same ps_law_same (defScope s_law_same) := ⟨rfl, rfl, rfl, by decide +kernel, rfl, by decide +kernel, by decide +kernel⟩
def spSame (K : PySem.W.Frag) (n : Nat) : Sp := fun vs H Q _ => ∃ (x y : V) (d : PyData), vs = [x, y] ∧ Dp K H x d ∧ Dp K H y d ∧ Fine n d ∧ n ≤ 60 ∧ ∀ H', Gr [] H H' → Q (.bl true) H'
theorem same_body (D : Df K mg "_law_same" s_law_same ps_law_same) (T : Txt mg) (n k : Nat) (sp' : Sp) (G_law_same : Has P w K mg base k "_law_same" ps_law_same sp') (imp : ∀ m, n = m + 1 → ∀ vs H Q E, spSame K m vs H Q E → sp' vs H Q E) :
    Has P w K mg base (k + 1) "_law_same" ps_law_same (spSame K n) := Has.mk' D fun f fd F => by
  refine F.ok sc_law_same (fun vs H Q E h => ?_) (fun cdv A outer s H vs Q E hr h => ?_)
  · obtain ⟨x, y, d, rfl, _⟩ := h
    rfl
  · obtain ⟨x, y, d, rfl, hx, hy, hf, hn, q⟩ := h
    refine ⟨_, (pss_cons (ps_if (pt_val (pe_callB (call_isiTK (K := K)) (by rfl) T.m_isinstance (by decide +kernel) (pa_cons (pv 1) (pa_cons (pe_tup (pa_cons (pe_bltn (v := .ty "list") (by rfl) T.m_list (by decide +kernel) rfl) (pa_cons (pe_bltn (v := .ty "tuple") (by rfl) T.m_tuple (by decide +kernel) rfl) pa_nil))) pa_nil))))
  (pss_cons (ps_if (pt_cmpR op_ne (pe_callB (call_isiK' (K := K)) (by rfl) T.m_isinstance (by decide +kernel) (pa_cons (pv 0) (pa_cons (pe_bltn (v := .ty "list") (by rfl) T.m_list (by decide +kernel) rfl) pa_nil))) (pe_callB (call_isiK' (K := K)) (by rfl) T.m_isinstance (by decide +kernel) (pa_cons (pv 1) (pa_cons (pe_bltn (v := .ty "list") (by rfl) T.m_list (by decide +kernel) rfl) pa_nil))) (nomark _))
    (pss_one (ps_ret pe_bl))
    pss_nil)
  (pss_cons (ps_if (pt_cmpR op_ne (pe_callB (call_isiK' (K := K)) (by rfl) T.m_isinstance (by decide +kernel) (pa_cons (pv 0) (pa_cons (pe_bltn (v := .ty "tuple") (by rfl) T.m_tuple (by decide +kernel) rfl) pa_nil))) (pe_callB (call_isiK' (K := K)) (by rfl) T.m_isinstance (by decide +kernel) (pa_cons (pv 1) (pa_cons (pe_bltn (v := .ty "tuple") (by rfl) T.m_tuple (by decide +kernel) rfl) pa_nil))) (nomark _))
    (pss_one (ps_ret pe_bl))
    pss_nil)
  (pss_one (ps_ret (pe_and (pe_cmpR op_eq (pe_callB (call_len_seqK (K := K)) (by rfl) T.m_len (by decide +kernel) (pa_cons (pv 0) pa_nil)) (pe_callB (call_len_seqK (K := K)) (by rfl) T.m_len (by decide +kernel) (pa_cons (pv 1) pa_nil)) (nomark _)) (pe_one (pe_callB (cr_allK (K := K) rfl) (by rfl) T.m_all (by decide +kernel) (pa_cons (pe_lc (own := [("_law_mine", 2), ("_law_its", 3)]) (g := (gTup K 2 (gCons (gName 2) (gCons (gName 3) gNil))))  rfl sc_law_same.nd (RZ.pi_zipA (by rfl) T.m_zip (pa_cons (pv 0) (pa_cons (pv 1) pa_nil))) (blkOk_by (own := [("_law_mine", 2), ("_law_its", 3)]) (N := N_law_same) (sc := defScope s_law_same) (by decide +kernel)) (fun _ _ _ _ _ => (pg_tupK (K := K) rfl (pgs_cons (pg_name (i := 2) sc_law_same.nd rfl (Or.inl rfl)) (pgs_cons (pg_name (i := 3) sc_law_same.nd rfl (Or.inl rfl)) pgs_nil)))) (fun _ _ _ _ _ => pts_nil) (fun _ _ _ _ _ => (pe_callH G_law_same (hr.mono (by first | decide | omega)) (by rfl) (pa_cons (pv 2) (pa_cons (pv 3) pa_nil))))) pa_nil))))))))
  pss_nil)
(pss_cons (ps_if (PW.pt (pw_or (pt_cmpR op_isN (pv 1) pe_non (nomark _)) (pw_or1 (pt_val (pe_callB (call_isiTK (K := K)) (by rfl) T.m_isinstance (by decide +kernel) (pa_cons (pv 1) (pa_cons (pe_tup (pa_cons (pe_bltn (v := .ty "bool") (by rfl) T.m_bool (by decide +kernel) rfl) (pa_cons (pe_bltn (v := .ty "str") (by rfl) T.m_str (by decide +kernel) rfl) pa_nil))) pa_nil)))))))
  (pss_one (ps_ret (pe_and (pe_cmpR (op_eqDK (K := K) hr.units) (pv 0) (pv 1) (nomark _)) (pe_and (pe_cmpR op_eq (pe_callB (call_isiK' (K := K)) (by rfl) T.m_isinstance (by decide +kernel) (pa_cons (pv 0) (pa_cons (pe_bltn (v := .ty "bool") (by rfl) T.m_bool (by decide +kernel) rfl) pa_nil))) (pe_callB (call_isiK' (K := K)) (by rfl) T.m_isinstance (by decide +kernel) (pa_cons (pv 1) (pa_cons (pe_bltn (v := .ty "bool") (by rfl) T.m_bool (by decide +kernel) rfl) pa_nil))) (nomark _)) (pe_one (pe_cmpR op_eq (pe_cmpR op_isN (pv 0) pe_non (nomark _)) (pe_cmpR op_isN (pv 1) pe_non (nomark _)) (nomark _)))))))
  pss_nil)
(pss_one (ps_ret (pe_and (pe_callB (call_isiK' (K := K)) (by rfl) T.m_isinstance (by decide +kernel) (pa_cons (pv 0) (pa_cons (pe_bltn (v := .ty "int") (by rfl) T.m_int (by decide +kernel) rfl) pa_nil))) (pe_and (pe_not (pe_callB (call_isiK' (K := K)) (by rfl) T.m_isinstance (by decide +kernel) (pa_cons (pv 0) (pa_cons (pe_bltn (v := .ty "bool") (by rfl) T.m_bool (by decide +kernel) rfl) pa_nil)))) (pe_one (pe_cmpR (op_eqDK (K := K) hr.units) (pv 0) (pv 1) (nomark _))))))))), ?_⟩
    walk_at "w"
    refine WK.w_if ?_
    walk_at "w"
    refine ⟨WK.sz, fun t nt => ?_⟩
    have g1 : Gr [] H (upd H t (.tup [.ty "list", .ty "tuple"])) := Gr.new nt
    have ht : (upd H t (.tup [.ty "list", .ty "tuple"])) t = some (.tup [.ty "list", .ty "tuple"]) := upd_same
    have hx1 := dp_gr g1 d hx
    have hy1 := dp_gr g1 d hy
    generalize (upd H t (.tup [.ty "list", .ty "tuple"])) = H1 at *
    walk_at "w"
    cases d with
    | dict _ => cases n <;> exact hf.elim
    | none =>
      cases hx; cases hy
      refine w_isi2 hy1 ht (b1 := false) (b2 := false) (by walk_at "k") (by walk_at "k") ?_
      walk_at "w"
      refine WK.w_ifN (by decide) ?_
      walk_at "w"
      walk_at "i"
      walk_at "i"
      refine WK.w_ifP (by decide) ?_
      walk_at "w"
      refine WK.w_ifP (by decide) ?_
      walk_at "w"
      walk_at "i"
      refine w_eqSelf hx1 hy1 hf (by omega) ?_
      walk_at "w"
      refine WK.w_ifP (by decide) ?_
      walk_at "i"
      refine w_isi hx1 (b := false) (by walk_at "k") ?_
      walk_at "w"
      refine w_isi hy1 (b := false) (by walk_at "k") ?_
      walk_at "w"
      refine WK.w_ifP (by decide) ?_
      walk_at "w"
      exact q _ g1
    | bool b =>
      cases hx; cases hy
      refine w_isi2 hy1 ht (b1 := false) (b2 := false) (by walk_at "k") (by walk_at "k") ?_
      walk_at "w"
      refine WK.w_ifN (by decide) ?_
      walk_at "w"
      walk_at "i"
      walk_at "i"
      refine WK.w_ifN (by simp) ?_
      walk_at "w"
      refine ⟨WK.sz, fun t2 nt2 => ?_⟩
      have g2 : Gr [] H1 (upd H1 t2 (.tup [.ty "bool", .ty "str"])) := Gr.new nt2
      have ht2 : (upd H1 t2 (.tup [.ty "bool", .ty "str"])) t2 = some (.tup [.ty "bool", .ty "str"]) := upd_same
      have hx2 := dp_gr g2 _ hx1
      have hy2 := dp_gr g2 _ hy1
      generalize (upd H1 t2 (.tup [.ty "bool", .ty "str"])) = H2 at *
      walk_at "w"
      refine w_isi2 hy2 ht2 (b1 := true) (b2 := false) (by walk_at "k") (by walk_at "k") ?_
      walk_at "w"
      refine WK.w_ifP (by decide) ?_
      walk_at "w"
      walk_at "i"
      refine w_eqSelf hx2 hy2 hf (by omega) ?_
      walk_at "w"
      refine WK.w_ifP (by decide) ?_
      walk_at "i"
      refine w_isi hx2 (b := true) (by walk_at "k") ?_
      walk_at "w"
      refine w_isi hy2 (b := true) (by walk_at "k") ?_
      walk_at "w"
      refine WK.w_ifP (by decide) ?_
      walk_at "w"
      simp only [beq_self_eq_true]
      exact q _ (g1.trans g2)
    | int i =>
      cases hx; cases hy
      refine w_isi2 hy1 ht (b1 := false) (b2 := false) (by walk_at "k") (by walk_at "k") ?_
      walk_at "w"
      refine WK.w_ifN (by decide) ?_
      walk_at "w"
      walk_at "i"
      walk_at "i"
      refine WK.w_ifN (by simp) ?_
      walk_at "w"
      refine ⟨WK.sz, fun t2 nt2 => ?_⟩
      have g2 : Gr [] H1 (upd H1 t2 (.tup [.ty "bool", .ty "str"])) := Gr.new nt2
      have ht2 : (upd H1 t2 (.tup [.ty "bool", .ty "str"])) t2 = some (.tup [.ty "bool", .ty "str"]) := upd_same
      have hx2 := dp_gr g2 _ hx1
      have hy2 := dp_gr g2 _ hy1
      generalize (upd H1 t2 (.tup [.ty "bool", .ty "str"])) = H2 at *
      walk_at "w"
      refine w_isi2 hy2 ht2 (b1 := false) (b2 := false) (by walk_at "k") (by walk_at "k") ?_
      walk_at "w"
      refine WK.w_ifN (by decide) ?_
      walk_at "w"
      walk_at "i"
      refine w_isi hx2 (b := true) (by walk_at "k") ?_
      walk_at "w"
      refine WK.w_ifP rfl ?_
      walk_at "i"
      refine w_isi hx2 (b := false) (by walk_at "k") ?_
      walk_at "w"
      refine WK.w_ifP (by decide) ?_
      walk_at "w"
      refine w_eqSelf hx2 hy2 hf (by omega) ?_
      exact q _ (g1.trans g2)
    | str z =>
      cases hx; cases hy
      refine w_isi2 hy1 ht (b1 := false) (b2 := false) (by walk_at "k") (by walk_at "k") ?_
      walk_at "w"
      refine WK.w_ifN (by decide) ?_
      walk_at "w"
      walk_at "i"
      walk_at "i"
      refine WK.w_ifN (by simp) ?_
      walk_at "w"
      refine ⟨WK.sz, fun t2 nt2 => ?_⟩
      have g2 : Gr [] H1 (upd H1 t2 (.tup [.ty "bool", .ty "str"])) := Gr.new nt2
      have ht2 : (upd H1 t2 (.tup [.ty "bool", .ty "str"])) t2 = some (.tup [.ty "bool", .ty "str"]) := upd_same
      have hx2 := dp_gr g2 _ hx1
      have hy2 := dp_gr g2 _ hy1
      generalize (upd H1 t2 (.tup [.ty "bool", .ty "str"])) = H2 at *
      walk_at "w"
      refine w_isi2 hy2 ht2 (b1 := false) (b2 := true) (by walk_at "k") (by walk_at "k") ?_
      walk_at "w"
      refine WK.w_ifP (by decide) ?_
      walk_at "w"
      walk_at "i"
      refine w_eqSelf hx2 hy2 hf (by omega) ?_
      walk_at "w"
      refine WK.w_ifP (by decide) ?_
      walk_at "i"
      refine w_isi hx2 (b := false) (by walk_at "k") ?_
      walk_at "w"
      refine w_isi hy2 (b := false) (by walk_at "k") ?_
      walk_at "w"
      refine WK.w_ifP (by decide) ?_
      walk_at "w"
      simp only [beq_self_eq_true]
      exact q _ (g1.trans g2)
    | list ds =>
      refine w_isi2 hy1 ht (b1 := true) (b2 := false) (by walk_at "k") (by walk_at "k") ?_
      walk_at "w"
      refine WK.w_ifP (by decide) ?_
      walk_at "w"
      walk_at "i"
      refine w_isi hx1 (b := true) (by walk_at "k") ?_
      walk_at "w"
      refine w_isi hy1 (b := true) (by walk_at "k") ?_
      walk_at "w"
      refine WK.w_ifN (by decide) ?_
      walk_at "w"
      walk_at "i"
      refine w_isi hx1 (b := false) (by walk_at "k") ?_
      walk_at "w"
      refine w_isi hy1 (b := false) (by walk_at "k") ?_
      walk_at "w"
      refine WK.w_ifN (by decide) ?_
      walk_at "w"
      walk_at "i"
      clear hx hy
      cases n with
      | zero => exact hf.elim
      | succ m =>
      obtain ⟨hl, hds⟩ := hf
      cases hx1 with | lst hA hAs =>
      cases hy1 with | lst hB hBs =>
      rename_i a xs b ys
      have lA := dpAll_len hAs
      have lB := dpAll_len hBs
      refine ⟨_, _, rfl, .inl hA, ?_⟩
      walk_at "w"
      refine ⟨_, _, rfl, .inl hB, ?_⟩
      walk_at "w"
      refine WK.w_ifP (by rw [lA, lB]; exact decide_eq_true rfl) ?_
      walk_at "w"
      refine ⟨a, b, xs, ys, rfl, .inl ⟨hA, hB, ?_⟩⟩
      walk_at "w"
      refine lc_go (walk_zip (K := K) (n := xs.length) (by omega)) (fun Dn j acc H' => Gr [] H1 H' ∧ acc = (List.replicate j true).map V.bl)
        (fun Dn nD => ⟨Gr.new nD, rfl⟩) (fun Dn j acc H' _ ⟨g, _⟩ => ⟨sqL_gr g (by simp) hA, sqL_gr g (by simp) hB⟩) ?_ ?_
      · rintro Dn j ac x H5 H6 nD hj hD la ⟨g5, rfl⟩ ⟨T, x1, y1, rfl, nT, rfl, e1, e2⟩
        walk_at "w"
        refine ⟨rfl, ?_⟩
        walk_at "w"
        refine WK.w_ifP rfl ?_
        walk_at "w"
        have gT : Gr [] H5 (upd H5 T (.tup [x1, y1])) := Gr.new nT
        have g6 := g5.trans gT
        obtain ⟨d1, k1, p1⟩ := dpAll_get hAs e1
        obtain ⟨d2, k2, p2⟩ := dpAll_get hBs e2
        rw [k1] at k2
        cases k2
        refine imp m rfl _ _ _ _ ⟨x1, y1, d1, rfl, dp_gr g6 _ p1, dp_gr g6 _ p2, hds _ (List.mem_of_getElem? k1), by omega, fun H6 g7 => ?_⟩
        dsimp only
        have hD6 := (gT.trans g7).k0 hD
        refine lc_yes hD6 la (by omega) ⟨(g6.trans g7).own (Gr.mutL hD6 (by simp)) nD, ?_⟩
        rw [List.replicate_succ', List.map_append]
        rfl
      · rintro Dn ac H5 nD hD la ⟨g5, rfl⟩
        walk_at "w"
        refine ⟨Dn, _, rfl, SqL.of hD, ?_⟩
        rw [List.all_replicate, show (if xs.length = 0 then true else id true) = true from by split <;> rfl]
        exact q _ (g1.trans g5)
    | tuple ds =>
      refine w_isi2 hy1 ht (b1 := false) (b2 := true) (by walk_at "k") (by walk_at "k") ?_
      walk_at "w"
      refine WK.w_ifP (by decide) ?_
      walk_at "w"
      walk_at "i"
      refine w_isi hx1 (b := false) (by walk_at "k") ?_
      walk_at "w"
      refine w_isi hy1 (b := false) (by walk_at "k") ?_
      walk_at "w"
      refine WK.w_ifN (by decide) ?_
      walk_at "w"
      walk_at "i"
      refine w_isi hx1 (b := true) (by walk_at "k") ?_
      walk_at "w"
      refine w_isi hy1 (b := true) (by walk_at "k") ?_
      walk_at "w"
      refine WK.w_ifN (by decide) ?_
      walk_at "w"
      walk_at "i"
      clear hx hy
      cases n with
      | zero => exact hf.elim
      | succ m =>
      obtain ⟨hl, hds⟩ := hf
      cases hx1 with | tup hA hAs =>
      cases hy1 with | tup hB hBs =>
      rename_i a xs b ys
      have lA := dpAll_len hAs
      have lB := dpAll_len hBs
      refine ⟨_, _, rfl, .inr hA, ?_⟩
      walk_at "w"
      refine ⟨_, _, rfl, .inr hB, ?_⟩
      walk_at "w"
      refine WK.w_ifP (by rw [lA, lB]; exact decide_eq_true rfl) ?_
      walk_at "w"
      refine ⟨a, b, xs, ys, rfl, .inr ⟨hA, hB, ?_⟩⟩
      walk_at "w"
      refine lc_go (walk_zT (K := K) (by omega)) (fun Dn j acc H' => Gr [] H1 H' ∧ acc = (List.replicate j true).map V.bl)
        (fun Dn nD => ⟨Gr.new nD, rfl⟩) (fun Dn j acc H' _ ⟨g, _⟩ => ⟨sqT_gr g hA, sqT_gr g hB⟩) ?_ ?_
      · rintro Dn j ac x H5 H6 nD hj hD la ⟨g5, rfl⟩ ⟨T, x1, y1, rfl, nT, rfl, e1, e2⟩
        walk_at "w"
        refine ⟨rfl, ?_⟩
        walk_at "w"
        refine WK.w_ifP rfl ?_
        walk_at "w"
        have gT : Gr [] H5 (upd H5 T (.tup [x1, y1])) := Gr.new nT
        have g6 := g5.trans gT
        obtain ⟨d1, k1, p1⟩ := dpAll_get hAs e1
        obtain ⟨d2, k2, p2⟩ := dpAll_get hBs e2
        rw [k1] at k2
        cases k2
        refine imp m rfl _ _ _ _ ⟨x1, y1, d1, rfl, dp_gr g6 _ p1, dp_gr g6 _ p2, hds _ (List.mem_of_getElem? k1), by omega, fun H6 g7 => ?_⟩
        dsimp only
        have hD6 := (gT.trans g7).k0 hD
        refine lc_yes hD6 la (by omega) ⟨(g6.trans g7).own (Gr.mutL hD6 (by simp)) nD, ?_⟩
        rw [List.replicate_succ', List.map_append]
        rfl
      · rintro Dn ac H5 nD hD la ⟨g5, rfl⟩
        walk_at "w"
        refine ⟨Dn, _, rfl, SqL.of hD, ?_⟩
        rw [List.all_replicate, show (if xs.length = 0 then true else id true) = true from by split <;> rfl]
        exact q _ (g1.trans g5)
theorem has_same (D : Df K mg "_law_same" s_law_same ps_law_same) (T : Txt mg) : ∀ n : Nat, Has P w K mg base (n + 1) "_law_same" ps_law_same (spSame K n)
  | 0 => same_body D T 0 0 (fun _ _ _ _ => False) (Has.bot D 0) (fun m e => by omega)
  | n + 1 => same_body D T (n + 1) (n + 1) (spSame K n) (has_same D T n) (fun m e => by
    obtain rfl : n = m := by omega
    exact fun _ _ _ _ h => h)

end
end PK
namespace PK
open PySem L2
section
variable {P : Program} {w : World} {K : PySem.W.Frag} {mg : Str → Option Value} {base : Heap}
mutual
def listed : PyData → PyData
  | .none => .none
  | .bool b => .bool b
  | .int i => .int i
  | .str x => .str x
  | .list ds => .list (listedA ds)
  | .tuple ds => .list (listedA ds)
  | .dict k => .dict k
def listedA : List PyData → List PyData
  | [] => []
  | d :: ds => listed d :: listedA ds
end
theorem listedA_map : ∀ ds : List PyData, listedA ds = ds.map listed
  | [] => rfl
  | d :: ds => by rw [listedA, listedA_map ds]; rfl
mutual
/-- data of new lists alone, each of them where N lets it be -/
inductive Fr (N : Addr → Prop) (H : Hp) : V → PyData → Prop
  | at_ {x : V} (h : Atom x) : Fr N H x (atomD x)
  | ls {a : Addr} {xs : List V} {ds : List PyData} (n : N a) (h : H a = some (.lst xs)) (t : FrA N H xs ds) : Fr N H (.ref a) (.list ds)
inductive FrA (N : Addr → Prop) (H : Hp) : List V → List PyData → Prop
  | nil : FrA N H [] []
  | cons {x : V} {d : PyData} {xs : List V} {ds : List PyData} (h : Fr N H x d) (t : FrA N H xs ds) : FrA N H (x :: xs) (d :: ds)
end
mutual
theorem Fr.gr {N N' : Addr → Prop} {H H' : Hp} {M : List Addr} (g : Gr M H H') (hM : ∀ a, N a → a ∉ M) (hN : ∀ a, N a → N' a) : ∀ {x : V} {d : PyData}, Fr N H x d → Fr N' H' x d
  | _, _, .at_ h => .at_ h
  | _, _, .ls n h t => .ls (hN _ n) (g.keep _ _ (hM _ n) h) (t.gr g hM hN)
theorem FrA.gr {N N' : Addr → Prop} {H H' : Hp} {M : List Addr} (g : Gr M H H') (hM : ∀ a, N a → a ∉ M) (hN : ∀ a, N a → N' a) : ∀ {xs : List V} {ds : List PyData}, FrA N H xs ds → FrA N' H' xs ds
  | _, _, .nil => .nil
  | _, _, .cons h t => .cons (h.gr g hM hN) (t.gr g hM hN)
end
mutual
theorem Fr.dp {N : Addr → Prop} {H : Hp} : ∀ {x : V} {d : PyData}, Fr N H x d → Dp K H x d
  | _, _, .at_ h => h.dp
  | _, _, .ls _ h t => .lst (SqL.of h) t.dp
theorem FrA.dp {N : Addr → Prop} {H : Hp} : ∀ {xs : List V} {ds : List PyData}, FrA N H xs ds → DpAll K H xs ds
  | _, _, .nil => .nil
  | _, _, .cons h t => .cons h.dp t.dp
end
theorem FrA.app {N : Addr → Prop} {H : Hp} {x : V} {d : PyData} : ∀ {xs : List V} {ds : List PyData}, FrA N H xs ds → Fr N H x d → FrA N H (xs ++ [x]) (ds ++ [d])
  | _, _, .nil, h => .cons h .nil
  | _, _, .cons h t, h' => .cons h (t.app h')
theorem FrA.get {N : Addr → Prop} {H : Hp} : ∀ {xs : List V} {ds : List PyData} {i : Nat} {d : PyData}, FrA N H xs ds → ds[i]? = some d → ∃ x, xs[i]? = some x ∧ Fr N H x d
  | _, _, _, _, .nil, e => by simp at e
  | _, _, 0, _, .cons h t, e => by simp at e; subst e; exact ⟨_, rfl, h⟩
  | _, _, i + 1, d, .cons h t, e => by
    obtain ⟨x, e1, e2⟩ := t.get (i := i) (d := d) (by simpa using e)
    exact ⟨x, by simpa using e1, e2⟩
theorem FrA.len {N : Addr → Prop} {H : Hp} : ∀ {xs : List V} {ds : List PyData}, FrA N H xs ds → xs.length = ds.length
  | _, _, .nil => rfl
  | _, _, .cons _ t => congrArg (· + 1) t.len
abbrev s_law_lists : Stmt := topS 9
abbrev N_law_lists : List Str := ["_law_matter", "_law_bit"]
abbrev ps_law_lists : List Str := ["_law_matter"]
theorem sc_law_lists : FnScope N_law_lists ps_law_lists (defScope s_law_lists) := ⟨rfl, rfl, rfl, by decide +kernel, rfl, by decide +kernel, by decide +kernel⟩
def spLists (K : PySem.W.Frag) (n : Nat) : Sp := fun vs H Q _ => ∃ (x : V) (d : PyData), vs = [x] ∧ Dp K H x d ∧ Fine n d ∧ ∀ y H', Gr [] H H' → Fr (fun a => H a = none) H' y (listed d) → Q y H'
theorem lists_body (D : Df K mg "_law_lists" s_law_lists ps_law_lists) (T : Txt mg) (n k : Nat) (sp' : Sp) (G_law_lists : Has P w K mg base k "_law_lists" ps_law_lists sp') (imp : ∀ m, n = m + 1 → ∀ vs H Q E, spLists K m vs H Q E → sp' vs H Q E) :
    Has P w K mg base (k + 1) "_law_lists" ps_law_lists (spLists K n) := Has.mk' D fun f fd F => by
  refine F.ok sc_law_lists (fun vs H Q E h => ?_) (fun cdv A outer s H vs Q E hr h => ?_)
  · obtain ⟨x, d, rfl, _⟩ := h
    rfl
  · obtain ⟨x, d, rfl, hx, hf, q⟩ := h
    refine ⟨_, (pss_one (ps_ret (pe_ifExp (pt_val (pe_callB (call_isiTK (K := K)) (by rfl) T.m_isinstance (by decide +kernel) (pa_cons (pv 0) (pa_cons (pe_tup (pa_cons (pe_bltn (v := .ty "list") (by rfl) T.m_list (by decide +kernel) rfl) (pa_cons (pe_bltn (v := .ty "tuple") (by rfl) T.m_tuple (by decide +kernel) rfl) pa_nil))) pa_nil)))) (pe_lc (own := [("_law_bit", 1)]) (g := gName 1)  rfl sc_law_lists.nd (pi_seq (pv 0)) (blkOk_by (own := [("_law_bit", 1)]) (N := N_law_lists) (sc := defScope s_law_lists) (by decide +kernel)) (fun _ _ _ _ _ => pg_name (i := 1) sc_law_lists.nd rfl (Or.inl rfl)) (fun _ _ _ _ _ => pts_nil) (fun _ _ _ _ _ => (pe_callH G_law_lists (hr.mono (by first | decide | omega)) (by rfl) (pa_cons (pv 1) pa_nil)))) (pv 0)))), ?_⟩
    walk_at "w"
    walk_at "i"
    refine ⟨WK.sz, fun t nt => ?_⟩
    have g1 : Gr [] H (upd H t (.tup [.ty "list", .ty "tuple"])) := Gr.new nt
    have ht : (upd H t (.tup [.ty "list", .ty "tuple"])) t = some (.tup [.ty "list", .ty "tuple"]) := upd_same
    have hx1 := dp_gr g1 d hx
    generalize (upd H t (.tup [.ty "list", .ty "tuple"])) = H1 at *
    walk_at "w"
    cases d with
    | dict _ => cases n <;> exact hf.elim
    | none =>
      refine w_isi2 hx1 ht (b1 := false) (b2 := false) (by walk_at "k") (by walk_at "k") ?_
      walk_at "w"
      refine WK.w_ifN (by decide) ?_
      walk_at "w"
      cases hx1
      exact q _ _ g1 (.at_ (x := _) trivial)
    | bool b =>
      refine w_isi2 hx1 ht (b1 := false) (b2 := false) (by walk_at "k") (by walk_at "k") ?_
      walk_at "w"
      refine WK.w_ifN (by decide) ?_
      walk_at "w"
      cases hx1
      exact q _ _ g1 (.at_ (x := _) trivial)
    | int i =>
      refine w_isi2 hx1 ht (b1 := false) (b2 := false) (by walk_at "k") (by walk_at "k") ?_
      walk_at "w"
      refine WK.w_ifN (by decide) ?_
      walk_at "w"
      cases hx1
      exact q _ _ g1 (.at_ (x := _) trivial)
    | str z =>
      refine w_isi2 hx1 ht (b1 := false) (b2 := false) (by walk_at "k") (by walk_at "k") ?_
      walk_at "w"
      refine WK.w_ifN (by decide) ?_
      walk_at "w"
      cases hx1
      exact q _ _ g1 (.at_ (x := _) (by cases n <;> exact hf))
    | list ds =>
      refine w_isi2 hx1 ht (b1 := true) (b2 := false) (by walk_at "k") (by walk_at "k") ?_
      walk_at "w"
      refine WK.w_ifP (by decide) ?_
      walk_at "w"
      clear hx
      cases n with
      | zero => exact hf.elim
      | succ m =>
      obtain ⟨hl, hds⟩ := hf
      cases hx1 with | lst hA hAs =>
      rename_i a xs
      have lA := dpAll_len hAs
      refine .inl ?_
      walk_at "w"
      refine ⟨⟨_, hA⟩, ?_⟩
      refine lc_go (walk_list (K := K) (a := a) (xs := xs)) (fun Dn j acc H' => Gr [] H1 H' ∧ FrA (fun a => H1 a = none ∧ a ≠ Dn) H' acc ((ds.take j).map listed))
        (fun Dn nD => ⟨Gr.new nD, .nil⟩) (fun Dn j acc H' _ ⟨g, _⟩ => sqL_gr g (by simp) hA) ?_ ?_
      · rintro Dn j ac x H5 H6 nD hj hD la ⟨g5, hac⟩ ⟨rfl, e1⟩
        obtain ⟨d1, k1, p1⟩ := dpAll_get hAs e1
        walk_at "w"
        refine ⟨rfl, ?_⟩
        walk_at "w"
        refine WK.w_ifP rfl ?_
        walk_at "w"
        refine imp m rfl _ _ _ _ ⟨x, d1, rfl, dp_gr g5 _ p1, hds _ (List.mem_of_getElem? k1), fun y H6 g6 hy => ?_⟩
        dsimp only
        have hD6 := g6.k0 hD
        have gD : Gr [Dn] H6 (upd H6 Dn (.lst (ac ++ [y]))) := Gr.mutL hD6 (by simp)
        have fy : Fr (fun a => H1 a = none ∧ a ≠ Dn) (upd H6 Dn (.lst (ac ++ [y]))) y (listed d1) := hy.gr gD (fun a ha => by
          rintro (e : a ∈ [Dn])
          rw [List.mem_singleton] at e
          rw [e, hD] at ha
          cases ha) (fun a ha => ⟨g5.live _ ha, fun e => by
          rw [e, hD] at ha
          cases ha⟩)
        have fa : FrA (fun a => H1 a = none ∧ a ≠ Dn) (upd H6 Dn (.lst (ac ++ [y]))) ac ((ds.take j).map listed) := (hac.gr (N' := fun a => H1 a = none ∧ a ≠ Dn) g6 (by simp) (fun _ h => h)).gr gD (fun a ha => by simpa using ha.2) (fun _ h => h)
        refine lc_yes hD6 la (by omega) ⟨(g5.trans g6).own gD nD, ?_⟩
        rw [take_snoc k1, List.map_append]
        exact fa.app fy
      · rintro Dn ac H5 nD hD la ⟨g5, hac⟩
        refine q _ _ (g1.trans g5) ?_
        show Fr _ _ _ (.list (listedA ds))
        refine .ls (g1.live _ nD) hD ?_
        rw [listedA_map]
        rw [lA, List.take_length] at hac
        exact hac.gr (Gr.refl [] _) (by simp) (fun a h => g1.live _ h.1)
    | tuple ds =>
      refine w_isi2 hx1 ht (b1 := false) (b2 := true) (by walk_at "k") (by walk_at "k") ?_
      walk_at "w"
      refine WK.w_ifP (by decide) ?_
      walk_at "w"
      clear hx
      cases n with
      | zero => exact hf.elim
      | succ m =>
      obtain ⟨hl, hds⟩ := hf
      cases hx1 with | tup hA hAs =>
      rename_i a xs
      have lA := dpAll_len hAs
      refine .inr ?_
      walk_at "w"
      refine ⟨⟨_, hA⟩, ?_⟩
      refine lc_go (walk_tup (K := K) (a := a) (xs := xs)) (fun Dn j acc H' => Gr [] H1 H' ∧ FrA (fun a => H1 a = none ∧ a ≠ Dn) H' acc ((ds.take j).map listed))
        (fun Dn nD => ⟨Gr.new nD, .nil⟩) (fun Dn j acc H' _ ⟨g, _⟩ => sqT_gr g hA) ?_ ?_
      · rintro Dn j ac x H5 H6 nD hj hD la ⟨g5, hac⟩ ⟨rfl, e1⟩
        obtain ⟨d1, k1, p1⟩ := dpAll_get hAs e1
        walk_at "w"
        refine ⟨rfl, ?_⟩
        walk_at "w"
        refine WK.w_ifP rfl ?_
        walk_at "w"
        refine imp m rfl _ _ _ _ ⟨x, d1, rfl, dp_gr g5 _ p1, hds _ (List.mem_of_getElem? k1), fun y H6 g6 hy => ?_⟩
        dsimp only
        have hD6 := g6.k0 hD
        have gD : Gr [Dn] H6 (upd H6 Dn (.lst (ac ++ [y]))) := Gr.mutL hD6 (by simp)
        have fy : Fr (fun a => H1 a = none ∧ a ≠ Dn) (upd H6 Dn (.lst (ac ++ [y]))) y (listed d1) := hy.gr gD (fun a ha => by
          rintro (e : a ∈ [Dn])
          rw [List.mem_singleton] at e
          rw [e, hD] at ha
          cases ha) (fun a ha => ⟨g5.live _ ha, fun e => by
          rw [e, hD] at ha
          cases ha⟩)
        have fa : FrA (fun a => H1 a = none ∧ a ≠ Dn) (upd H6 Dn (.lst (ac ++ [y]))) ac ((ds.take j).map listed) := (hac.gr (N' := fun a => H1 a = none ∧ a ≠ Dn) g6 (by simp) (fun _ h => h)).gr gD (fun a ha => by simpa using ha.2) (fun _ h => h)
        refine lc_yes hD6 la (by omega) ⟨(g5.trans g6).own gD nD, ?_⟩
        rw [take_snoc k1, List.map_append]
        exact fa.app fy
      · rintro Dn ac H5 nD hD la ⟨g5, hac⟩
        refine q _ _ (g1.trans g5) ?_
        show Fr _ _ _ (.list (listedA ds))
        refine .ls (g1.live _ nD) hD ?_
        rw [listedA_map]
        rw [lA, List.take_length] at hac
        exact hac.gr (Gr.refl [] _) (by simp) (fun a h => g1.live _ h.1)
theorem has_lists (D : Df K mg "_law_lists" s_law_lists ps_law_lists) (T : Txt mg) : ∀ n : Nat, Has P w K mg base (n + 1) "_law_lists" ps_law_lists (spLists K n)
  | 0 => lists_body D T 0 0 (fun _ _ _ _ => False) (Has.bot D 0) (fun m e => by omega)
  | n + 1 => lists_body D T (n + 1) (n + 1) (spLists K n) (has_lists D T n) (fun m e => by
    obtain rfl : n = m := by omega
    exact fun _ _ _ _ h => h)

end
end PK
namespace PK
open PySem L2
section
variable {P : Program} {w : World} {K : PySem.W.Frag} {mg : Str → Option Value} {base : Heap}
/-! the class Walk -/
abbrev aS : Str := "seats"
abbrev aV : Str := "saved"
abbrev aT : Str := "total"
abbrev wF (sd cl : Addr) (m : Int) : List (Str × V) := [(aS, .ref sd), (aV, .ref cl), (aT, .int m)]
structure WkAt (C : Addr) (H : Hp) (p sd cl : Addr) (st : WS) (n : Nat) : Prop where
  ob : ∃ dx, H p = some (.ins C dx (wF sd cl st.many))
  s : SeatsAt H sd st.seats n
  c : H cl = some (.lst (st.copies.map V.int))
  cn : st.copies.length ≤ n
structure WkC (K : PySem.W.Frag) (C : Addr) : Prop where
  cl : Cls K C
  nS : NoAttr K C "seats"
  nV : NoAttr K C "saved"
  nT : NoAttr K C "total"
theorem a_sv : ¬ (("seats" : Str) = "saved") := by decide +kernel
theorem a_st : ¬ (("seats" : Str) = "total") := by decide +kernel
theorem a_vt : ¬ (("saved" : Str) = "total") := by decide +kernel
theorem wF_1 {x : V} : putF aS x [] = [(aS, x)] := rfl
theorem wF_2 {x y : V} : putF aV y [(aS, x)] = [(aS, x), (aV, y)] := by
  simp only [putF]; rw [if_neg a_sv]
theorem wF_3 {x y z : V} : putF aT z [(aS, x), (aV, y)] = [(aS, x), (aV, y), (aT, z)] := by
  simp only [putF]; rw [if_neg a_st, if_neg a_vt]
theorem wF_put {x y z u : V} : putF aT u [(aS, x), (aV, y), (aT, z)] = [(aS, x), (aV, y), (aT, u)] := by
  simp only [putF]; rw [if_neg a_st, if_neg a_vt]; rfl
theorem wF_seats {sd cl : Addr} {m : Int} : (wF sd cl m).lookup aS = some (.ref sd) := by simp [List.lookup]
theorem wF_saved {sd cl : Addr} {m : Int} : (wF sd cl m).lookup aV = some (.ref cl) := by
  have e : (("saved" : Str) == "seats") = false := by decide +kernel
  simp [List.lookup, e]
theorem wF_total {sd cl : Addr} {m : Int} : (wF sd cl m).lookup aT = some (.int m) := by
  have e : (("total" : Str) == "seats") = false := by decide +kernel
  have e2 : (("total" : Str) == "saved") = false := by decide +kernel
  simp [List.lookup, e, e2]
theorem wF_none {sd cl : Addr} {m : Int} {x : Str} (h1 : (x == ("seats" : Str)) = false := by decide +kernel) (h2 : (x == ("saved" : Str)) = false := by decide +kernel) (h3 : (x == ("total" : Str)) = false := by decide +kernel) : (wF sd cl m).lookup x = none := by
  simp [List.lookup, h1, h2, h3]
theorem WK.w_fld {K : PySem.W.Frag} {ta : TE} {f : Str} {σ : L2.St} {H : Hp} {Q : VK} (k : ta σ H fun x H1 => ∃ a C dx fs v, x = .ref a ∧ H1 a = some (.ins C dx fs) ∧ Cls K C ∧ NoAttr K C f ∧ fs.lookup f = some v ∧ Q v H1) : tFld K ta f σ H Q := k
theorem SeatsAt.get {H : Hp} {sd : Addr} {f : Int → Option Int} {n : Nat} (h : SeatsAt H sd f n) (r : Int) : DGet H sd (.int r) ((f r).map V.int) := by
  obtain ⟨kvs, ks, hs, _, _, _, _, h5⟩ := h
  have q := DGet.k (k := .inl r) hs
  rw [h5] at q
  exact q
theorem SeatsAt.gr {H H' : Hp} {sd : Addr} {f : Int → Option Int} {n : Nat} {M : List Addr} (h : SeatsAt H sd f n) (g : Gr M H H') (h2 : sd ∉ M) : SeatsAt H' sd f n := by
  obtain ⟨kvs, ks, hs, r⟩ := h
  exact ⟨kvs, ks, g.keep _ _ h2 hs, r⟩
theorem SeatsAt.mono {H : Hp} {sd : Addr} {f : Int → Option Int} {n m : Nat} (h : SeatsAt H sd f n) (l : n ≤ m) : SeatsAt H sd f m := by
  obtain ⟨kvs, ks, hs, r1, r2, r3, r4⟩ := h
  exact ⟨kvs, ks, hs, r1, r2, by omega, r4⟩
section
variable {C : Addr} {H H' : Hp} {p sd cl : Addr} {st : WS} {n : Nat} {Q : VK}
theorem WkAt.keep {M : List Addr} (h : WkAt C H p sd cl st n) (g : Gr M H H') (h1 : p ∉ M) (h2 : sd ∉ M) (h3 : cl ∉ M) : WkAt C H' p sd cl st n := by
  obtain ⟨⟨dx, ho⟩, s, hc, cn⟩ := h
  exact ⟨⟨dx, g.keep _ _ h1 ho⟩, s.gr g h2, g.keep _ _ h3 hc, cn⟩
theorem WkAt.ne1 (h : WkAt C H p sd cl st n) : p ≠ sd := by
  obtain ⟨dx, ho⟩ := h.ob
  obtain ⟨kvs, ks, hs, _⟩ := h.s
  exact ne_of ho hs (by intro q; cases q)
theorem WkAt.ne2 (h : WkAt C H p sd cl st n) : p ≠ cl := by
  obtain ⟨dx, ho⟩ := h.ob
  exact ne_of ho h.c (by intro q; cases q)
theorem WkAt.ne3 (h : WkAt C H p sd cl st n) : sd ≠ cl := by
  obtain ⟨kvs, ks, hs, _⟩ := h.s
  exact ne_of hs h.c (by intro q; cases q)
theorem WkAt.seats {σ : L2.St} {i : Nat} (h : WkAt C H p sd cl st n) (W : WkC K C) (hi : σ[i]? = some (some (.ref p))) (k : Q (.ref sd) H) : tFld K (tVar i) "seats" σ H Q := by
  obtain ⟨dx, ho⟩ := h.ob
  exact ⟨_, hi, p, C, dx, _, _, rfl, ho, W.cl, W.nS, wF_seats, k⟩
theorem WkAt.saved {σ : L2.St} {i : Nat} (h : WkAt C H p sd cl st n) (W : WkC K C) (hi : σ[i]? = some (some (.ref p))) (k : Q (.ref cl) H) : tFld K (tVar i) "saved" σ H Q := by
  obtain ⟨dx, ho⟩ := h.ob
  exact ⟨_, hi, p, C, dx, _, _, rfl, ho, W.cl, W.nV, wF_saved, k⟩
theorem WkAt.total {σ : L2.St} {i : Nat} (h : WkAt C H p sd cl st n) (W : WkC K C) (hi : σ[i]? = some (some (.ref p))) (k : Q (.int st.many) H) : tFld K (tVar i) "total" σ H Q := by
  obtain ⟨dx, ho⟩ := h.ob
  exact ⟨_, hi, p, C, dx, _, _, rfl, ho, W.cl, W.nT, wF_total, k⟩
end
def spInit (C : Addr) : Sp := fun vs H Q _ => ∃ (p dx : Addr), vs = [.ref p] ∧ H p = some (.ins C dx []) ∧ ∀ (sd cl : Addr) (H' : Hp), H sd = none → H cl = none → Gr [p] H H' → WkAt C H' p sd cl .nil 0 → Q .non H'
abbrev s_Walk___init__ : Stmt := inClass (topS 1) 0
abbrev N_Walk___init__ : List Str := ["self"]
abbrev ps_Walk___init__ : List Str := ["self"]
theorem sc_Walk___init__ : FnScope N_Walk___init__ ps_Walk___init__ (defScope s_Walk___init__) := ⟨rfl, rfl, rfl, by decide +kernel, rfl, by decide +kernel, by decide +kernel⟩
theorem has_init {C : Addr} (D : DfI K mg C "Walk" "Walk.__init__" s_Walk___init__ ps_Walk___init__) (T : Txt mg) (W : WkC K C) : HasI P w K mg base C 1 "Walk" ps_Walk___init__ (spInit C) := HasI.mk' D fun f fd F => by
  refine F.ok sc_Walk___init__ (fun vs H Q E h => ?_) (fun cdv A outer s H vs Q E hr h => ?_)
  · obtain ⟨p, dx, rfl, _⟩ := h
    rfl
  · obtain ⟨p, dx, rfl, hp, q⟩ := h
    refine ⟨_, (pss_cons (ps_fld (pv 0) pe_dnewK rfl)
(pss_cons (ps_fld (pv 0) (pe_lst pa_nil) rfl)
(pss_one (ps_fld (pv 0) pe_int rfl)))), ?_⟩
    intro d hd
    have np : p ≠ d := ne_of_none hp hd
    have g1 : Gr [] H (upd H d (.dK [])) := Gr.new hd
    have h1 : (upd H d (.dK [])) d = some (.dK []) := upd_same
    have hp1 := g1.k0 hp
    generalize (upd H d (.dK [])) = H1 at *
    refine ⟨_, rfl, p, C, dx, [], rfl, hp1, W.cl, W.nS, by simp, ?_⟩
    have g2 : Gr [p] H1 (upd H1 p (.ins C dx (putF aS (.ref d) []))) := Gr.mut hp1 (fun _ z => by cases z) (by simp)
    have h2 := g2.k1 h1 np.symm
    have hp2 : (upd H1 p (.ins C dx (putF aS (.ref d) []))) p = _ := upd_same
    generalize (upd H1 p (.ins C dx (putF aS (.ref d) []))) = H2 at *
    rw [wF_1] at hp2
    refine WK.w_seq ?_
    refine ⟨WK.sz, fun c nc => ?_⟩
    have ncl : H c = none := by
      cases e : H c with
      | none => rfl
      | some o =>
        by_cases z : c = p
        · rw [z, hp2] at nc
          cases nc
        · rw [g2.k1 (g1.k0 e) z] at nc
          cases nc
    have np2 : p ≠ c := ne_of_none hp2 nc
    have nd2 : d ≠ c := ne_of_none h2 nc
    have g3 : Gr [] H2 (upd H2 c (.lst [])) := Gr.new nc
    have h3 : (upd H2 c (.lst [])) c = some (.lst []) := upd_same
    have hd3 := g3.k0 h2
    have hp3 := g3.k0 hp2
    generalize (upd H2 c (.lst [])) = H3 at *
    refine ⟨_, rfl, p, C, dx, _, rfl, hp3, W.cl, W.nV, by simp, ?_⟩
    rw [wF_2]
    have g4 : Gr [p] H3 (upd H3 p (.ins C dx [(aS, .ref d), (aV, .ref c)])) := Gr.mut hp3 (fun _ z => by cases z) (by simp)
    have h4 := g4.k1 h3 np2.symm
    have hd4 := g4.k1 hd3 np.symm
    have hp4 : (upd H3 p (.ins C dx [(aS, .ref d), (aV, .ref c)])) p = _ := upd_same
    generalize (upd H3 p (.ins C dx [(aS, .ref d), (aV, .ref c)])) = H4 at *
    refine ⟨_, rfl, p, C, dx, _, rfl, hp4, W.cl, W.nT, by simp, ?_⟩
    rw [wF_3]
    have g5 : Gr [p] H4 (upd H4 p (.ins C dx [(aS, .ref d), (aV, .ref c), (aT, .int 0)])) := Gr.mut hp4 (fun _ z => by cases z) (by simp)
    refine q d c _ hd ncl (((((g1.mono (by simp)).trans g2).trans (g3.mono (by simp))).trans g4).trans g5) ⟨⟨dx, upd_same⟩, ⟨[], [], g5.k1 hd4 np.symm, rfl, List.nodup_nil, by simp, fun r => by simp [WS.nil], fun r => rfl⟩, g5.k1 h4 np2.symm, by simp [WS.nil]⟩

end
end PK
namespace PK
open PySem L2
section
variable {P : Program} {w : World} {K : PySem.W.Frag} {mg : Str → Option Value} {base : Heap}
abbrev WD : List Str := ["put", "drop", "join", "read", "save", "load", "wait"]
def Ev.nice : Ev → Prop
  | .join r => 0 ≤ r
  | .read r u => 0 ≤ r ∧ 0 ≤ u
  | .save r => 0 ≤ r
  | .load r c => 0 ≤ r ∧ 0 ≤ c
  | _ => True
def fitsB (s : WS) : Ev → Bool
  | .read r u => match s.seats r with
    | some p => decide (p < u) && decide (u ≤ s.many)
    | none => false
  | .save r => (s.seats r).isSome
  | .load _ c => decide (c < s.copies.length)
  | _ => true
theorem fits_of {s : WS} {e : Ev} (n : e.nice) (h : fitsB s e = true) : s.fits e := by
  cases e with
  | read r u =>
    cases q : s.seats r with
    | none => simp [fitsB, q] at h
    | some p =>
      simp [fitsB, q] at h
      exact ⟨p, q, h⟩
  | save r =>
    cases q : s.seats r with
    | none => simp [fitsB, q] at h
    | some p => exact ⟨p, q⟩
  | load r c =>
    simp only [fitsB, decide_eq_true_eq] at h
    exact ⟨n.2, h⟩
  | _ => trivial
def spFits (K : PySem.W.Frag) (C : Addr) : Sp := fun vs H Q _ => ∃ (p sd cl : Addr) (st : WS) (n : Nat) (v a : V) (b : Addr) (e : Ev), vs = [.ref p, .ref b] ∧ WkAt C H p sd cl st n ∧ n ≤ 1000 ∧ SqT K H b e.vs ∧
  ∀ H' : Hp, Gr [] H H' → Q (.bl (fitsB st e)) H'
abbrev s_Walk_fits : Stmt := inClass (topS 1) 1
abbrev N_Walk_fits : List Str := ["self", "event", "reader", "upto", "copy"]
abbrev ps_Walk_fits : List Str := ["self", "event"]
theorem sc_Walk_fits : FnScope N_Walk_fits ps_Walk_fits (defScope s_Walk_fits) := ⟨rfl, rfl, rfl, by decide +kernel, rfl, by decide +kernel, by decide +kernel⟩
theorem has_fits {C : Addr} (D : DfM K C "fits" "Walk.fits" s_Walk_fits ps_Walk_fits) (T : Txt mg) (W : WkC K C) : HasM P w K mg base C 1 "fits" ps_Walk_fits (spFits K C) := HasM.mk' D fun f fd F => by
  refine F.ok sc_Walk_fits (fun vs H Q E h => ?_) (fun cdv A outer s H vs Q E hr h => ?_)
  · obtain ⟨p, sd, cl, st, n, v, a, b, e, rfl, _⟩ := h
    rfl
  · obtain ⟨p, sd, cl, st, n, v, a, b, e, rfl, hw, hn, hS, q⟩ := h
    have q := q H (Gr.refl _ _)
    refine ⟨_, (pss_cons (ps_match (pv 1) (pcs_word sc_Walk_fits.nd rfl (op_eqDK (K := K) hr.units) (.name (i := 2) rfl rfl (.name (i := 3) rfl rfl .nil)) (pss_one (ps_ret (pe_and (pe_cmp (pc_din (hu_of hr) (pv 2) (pe_fld (pv 0) rfl))) (pe_one (pe_chain op_lt op_le (pe_dget (hu_of hr) (pe_fld (pv 0) rfl) (pv 2) (fun _ _ => rfl)) (pv 3) (pe_fld (pv 0) rfl))))))
(pcs_word sc_Walk_fits.nd rfl (op_eqDK (K := K) hr.units) (.name (i := 2) rfl rfl .nil) (pss_one (ps_ret (pe_cmp (pc_din (hu_of hr) (pv 2) (pe_fld (pv 0) rfl)))))
(pcs_word sc_Walk_fits.nd rfl (op_eqDK (K := K) hr.units) (.skip (.name (i := 4) rfl rfl .nil)) (pss_one (ps_ret (pe_cmpR op_lt (pv 4) (pe_callB (call_len_seqK (K := K)) (by rfl) T.m_len (by decide +kernel) (pa_cons (pe_fld (pv 0) rfl) pa_nil)) (nomark _))))
pcs_nil))))
(pss_one (ps_ret pe_bl))), ?_⟩
    have ok : ∀ w ∈ WD, PyData.strOk w = true := by decide +kernel
    walk_at "w"
    refine w_match ?_
    walk_at "w"
    cases e with
    | read r u =>
      refine c_yes hS rfl (ok _ (by simp)) ?_
      walk_at "w"
      walk_at "i"
      refine hw.seats W rfl ?_
      refine ⟨sd, _, rfl, hw.s.get r, ?_⟩
      walk_at "w"
      cases e : st.seats r with
      | none =>
        refine WK.w_ifN (by decide) ?_
        rw [show fitsB st (.read r u) = false from by simp [fitsB, e]] at q
        exact q
      | some z =>
        refine WK.w_ifP rfl ?_
        refine WK.w_chain ?_
        walk_at "w"
        refine hw.seats W rfl ?_
        walk_at "w"
        have hg := hw.s.get r
        rw [e] at hg
        refine ⟨sd, _, rfl, hg, ?_⟩
        walk_at "w"
        refine WK.w_2 (fun h1 => ?_) (fun h1 => ?_)
        · refine hw.total W rfl ?_
          walk_at "w"
          rw [show fitsB st (.read r u) = decide (u ≤ st.many) from by simp [fitsB, e, h1]] at q
          exact q
        · rw [show fitsB st (.read r u) = false from by simp [fitsB, e, h1]] at q
          exact q
    | save r => 
      refine c_not hS (ok _ (by simp)) (ok _ (by simp)) (by decide +kernel) (c_yes hS rfl (ok _ (by simp)) ?_)
      walk_at "w"
      refine hw.seats W rfl ?_
      refine ⟨sd, _, rfl, hw.s.get r, ?_⟩
      rw [show fitsB st (.save r) = ((st.seats r).map V.int).isSome from by simp [fitsB]] at q
      exact q
    | load r c =>
      refine c_not hS (ok _ (by simp)) (ok _ (by simp)) (by decide +kernel) (c_not hS (ok _ (by simp)) (ok _ (by simp)) (by decide +kernel) (c_yes hS rfl (ok _ (by simp)) ?_))
      walk_at "w"
      refine hw.saved W rfl ?_
      walk_at "w"
      refine w_len hw.c ?_
      walk_at "w"
      rw [List.length_map]
      exact q
    | _ =>
      refine c_not hS (ok _ (by simp)) (ok _ (by simp)) (by decide +kernel) (c_not hS (ok _ (by simp)) (ok _ (by simp)) (by decide +kernel) (c_not hS (ok _ (by simp)) (ok _ (by simp)) (by decide +kernel) (c_nil ?_)))
      walk_at "w"
      exact q

end
end PK
namespace PK
open PySem L2
section
variable {P : Program} {w : World} {K : PySem.W.Frag} {mg : Str → Option Value} {base : Heap}
def spStep (K : PySem.W.Frag) (C : Addr) : Sp := fun vs H Q _ => ∃ (p sd cl : Addr) (st : WS) (n : Nat) (b : Addr) (e : Ev), vs = [.ref p, .ref b] ∧ WkAt C H p sd cl st n ∧ n ≤ 1000 ∧ SqT K H b e.vs ∧ st.fits e ∧
  ∀ H' : Hp, Gr [p, sd, cl] H H' → WkAt C H' p sd cl (st.step e) (n + 1) → Q .non H'
section
variable {C : Addr} {H : Hp} {p sd cl : Addr} {st : WS} {n : Nat}
theorem WkAt.p_seat (h : WkAt C H p sd cl st n) (hn : n ≤ 1000) (r q : Int) : ∃ o, DPut H sd (.int r) (.int q) (upd H sd o) ∧ WkAt C (upd H sd o) p sd cl (st.seat r q) (n + 1) ∧ Gr [p, sd, cl] H (upd H sd o) := by
  obtain ⟨kvs, ks, hs, q1, q2, q3, q4⟩ := id h.s
  have hl : kvs.length < sizeLine := by
    have e : kvs.length = ks.length := by rw [← List.length_map (f := (·.1)), q1, List.length_map]
    rw [e]
    exact Nat.lt_of_le_of_lt (Nat.le_trans q3 hn) (by decide)
  obtain ⟨dx, ho⟩ := h.ob
  refine ⟨_, DPut.k (k := .inl r) hs hl, ⟨⟨dx, ?_⟩, h.s.put hs, ?_, Nat.le_succ_of_le h.cn⟩, Gr.mutD hs (by simp)⟩
  · rw [upd_ne h.ne1]; exact ho
  · rw [upd_ne h.ne3.symm]; exact h.c
theorem WkAt.p_total (h : WkAt C H p sd cl st n) (j : Int) {dx : Addr} (ho : H p = some (.ins C dx (wF sd cl st.many))) : WkAt C (upd H p (.ins C dx (wF sd cl j))) p sd cl { st with many := j } (n + 1) ∧ Gr [p, sd, cl] H (upd H p (.ins C dx (wF sd cl j))) := by
  have g : Gr [p] H (upd H p (.ins C dx (wF sd cl j))) := Gr.mut ho (fun _ z => by cases z) (by simp)
  exact ⟨⟨⟨dx, upd_same⟩, (h.s.gr g (by simpa using h.ne1.symm)).mono (by omega), g.k1 h.c h.ne2.symm, Nat.le_succ_of_le h.cn⟩, g.mono (by simp)⟩
end
theorem WK.w_fldaug {K : PySem.W.Frag} {ta tv : TE} {rd : V → V → Hp → VK → Prop} {f : Str} {D : Ends} {σ : L2.St} {H : Hp} (k : ta σ H fun x H1 => ∃ a C dx fs v, x = .ref a ∧ H1 a = some (.ins C dx fs) ∧ Cls K C ∧ NoAttr K C f ∧ fs.lookup f = some v ∧
  tv σ H1 fun y H2 => rd v y H2 fun z H3 => ∃ dx' fs', H3 a = some (.ins C dx' fs') ∧ fs'.length < 1000 ∧ D.nx σ (upd H3 a (.ins C dx' (putF f z fs')))) : sFldAug K ta tv rd f D σ H := k
abbrev s_Walk_step : Stmt := inClass (topS 1) 2
abbrev N_Walk_step : List Str := ["self", "event", "reader", "upto", "copy"]
abbrev ps_Walk_step : List Str := ["self", "event"]
theorem sc_Walk_step : FnScope N_Walk_step ps_Walk_step (defScope s_Walk_step) := ⟨rfl, rfl, rfl, by decide +kernel, rfl, by decide +kernel, by decide +kernel⟩
theorem has_step {C : Addr} (D : DfM K C "step" "Walk.step" s_Walk_step ps_Walk_step) (T : Txt mg) (W : WkC K C) : HasM P w K mg base C 1 "step" ps_Walk_step (spStep K C) := HasM.mk' D fun f fd F => by
  refine F.ok sc_Walk_step (fun vs H Q E h => ?_) (fun cdv A outer s H vs Q E hr h => ?_)
  · obtain ⟨p, sd, cl, st, n, b, e, rfl, _⟩ := h
    rfl
  · obtain ⟨p, sd, cl, st, n, b, e, rfl, hw, hn, hS, hf, q⟩ := h
    refine ⟨_, (pss_one (ps_match (pv 1) (pcs_word sc_Walk_step.nd rfl (op_eqDK (K := K) hr.units) (.skip (.skip .nil)) (pss_one (ps_fldaug (pv 0) pe_int in_add))
(pcs_word sc_Walk_step.nd rfl (op_eqDK (K := K) hr.units) (.skip .nil) (pss_one (ps_fldaug (pv 0) pe_int in_add))
(pcs_word sc_Walk_step.nd rfl (op_eqDK (K := K) hr.units) (.name (i := 2) rfl rfl .nil) (pss_one (ps_dput (hu_of hr) (pe_fld (pv 0) rfl) (pv 2) pe_int rfl))
(pcs_word sc_Walk_step.nd rfl (op_eqDK (K := K) hr.units) (.name (i := 2) rfl rfl (.name (i := 3) rfl rfl .nil)) (pss_one (ps_dput (hu_of hr) (pe_fld (pv 0) rfl) (pv 2) (pv 3) rfl))
(pcs_word sc_Walk_step.nd rfl (op_eqDK (K := K) hr.units) (.name (i := 2) rfl rfl .nil) (pss_one (ps_expr (pe_bm PySem.F.plainAttrs_list PySem.F.slot_list_append PySem.F.type_list_append mt_append (pe_fld (pv 0) rfl) (pa_cons (pe_dget (hu_of hr) (pe_fld (pv 0) rfl) (pv 2) (fun _ _ => rfl)) pa_nil))))
(pcs_word sc_Walk_step.nd rfl (op_eqDK (K := K) hr.units) (.name (i := 2) rfl rfl (.name (i := 4) rfl rfl .nil)) (pss_one (ps_dput (hu_of hr) (pe_fld (pv 0) rfl) (pv 2) (pe_ix (ix_listK (K := K)) (pe_fld (pv 0) rfl) (pv 4) (fun _ _ => rfl)) rfl))
pcs_nil)))))))), ?_⟩
    have ok : ∀ w ∈ WD, PyData.strOk w = true := by decide +kernel
    refine w_match ?_
    walk_at "w"
    obtain ⟨dx, ho⟩ := id hw.ob
    cases e with
    | put k v =>
      refine c_yes hS rfl (ok _ (by simp)) ?_
      refine WK.w_fldaug ?_
      walk_at "w"
      refine ⟨p, C, dx, _, _, rfl, ho, W.cl, W.nT, wF_total, ?_⟩
      walk_at "w"
      refine ⟨_, _, rfl, rfl, dx, _, ho, by simp, ?_⟩
      rw [wF_put]
      obtain ⟨w1, g1⟩ := hw.p_total (st.many + 1) ho
      exact q _ g1 w1
    | drop k =>
      refine c_skip hS (by simp [Ev.vs]) (c_yes hS rfl (ok _ (by simp)) ?_)
      refine WK.w_fldaug ?_
      walk_at "w"
      refine ⟨p, C, dx, _, _, rfl, ho, W.cl, W.nT, wF_total, ?_⟩
      walk_at "w"
      refine ⟨_, _, rfl, rfl, dx, _, ho, by simp, ?_⟩
      rw [wF_put]
      obtain ⟨w1, g1⟩ := hw.p_total (st.many + 1) ho
      exact q _ g1 w1
    | join r =>
      refine c_skip hS (by simp [Ev.vs]) (c_not hS (ok _ (by simp)) (ok _ (by simp)) (by decide +kernel) (c_yes hS rfl (ok _ (by simp)) ?_))
      walk_at "w"
      refine hw.seats W rfl ?_
      walk_at "w"
      obtain ⟨o, d, h2, g2⟩ := hw.p_seat hn r 0
      refine ⟨_, _, rfl, d, ?_⟩
      exact q _ g2 h2
    | read r u =>
      refine c_not hS (ok _ (by simp)) (ok _ (by simp)) (by decide +kernel) (c_skip hS (by simp [Ev.vs]) (c_skip hS (by simp [Ev.vs]) (c_yes hS rfl (ok _ (by simp)) ?_)))
      walk_at "w"
      refine hw.seats W rfl ?_
      walk_at "w"
      obtain ⟨o, d, h2, g2⟩ := hw.p_seat hn r u
      refine ⟨_, _, rfl, d, ?_⟩
      exact q _ g2 h2
    | save r =>
      refine c_skip hS (by simp [Ev.vs]) (c_not hS (ok _ (by simp)) (ok _ (by simp)) (by decide +kernel) (c_not hS (ok _ (by simp)) (ok _ (by simp)) (by decide +kernel) (c_skip hS (by simp [Ev.vs]) (c_yes hS rfl (ok _ (by simp)) ?_))))
      walk_at "w"
      refine hw.saved W rfl ?_
      refine ⟨.inl ⟨rfl, _, SqL.of hw.c⟩, ?_⟩
      walk_at "w"
      refine hw.seats W rfl ?_
      walk_at "w"
      obtain ⟨z, hz⟩ := hf
      have hg := hw.s.get r
      rw [hz] at hg
      refine ⟨_, _, rfl, hg, ?_⟩
      walk_at "w"
      have hcn := hw.cn
      refine ⟨cl, _, _, rfl, rfl, hw.c, WK.sz' (by rw [List.length_map]; omega), ?_⟩
      have g : Gr [cl] H (upd H cl (.lst (st.copies.map V.int ++ [.int z]))) := Gr.mutL hw.c (by simp)
      refine q _ (g.mono (by simp)) ⟨⟨dx, g.k1 ho hw.ne2⟩, (hw.s.gr g (by simpa using hw.ne3)).mono (by omega), ?_, ?_⟩
      · rw [upd_same]
        show _ = some (HO.lst (List.map V.int (st.copies ++ [(st.seats r).getD 0])))
        rw [hz, List.map_append]
        rfl
      · show (st.copies ++ [(st.seats r).getD 0]).length ≤ n + 1
        rw [List.length_append, List.length_singleton]
        omega
    | load r c =>
      refine c_not hS (ok _ (by simp)) (ok _ (by simp)) (by decide +kernel) (c_skip hS (by simp [Ev.vs]) (c_skip hS (by simp [Ev.vs]) (c_not hS (ok _ (by simp)) (ok _ (by simp)) (by decide +kernel) (c_skip hS (by simp [Ev.vs]) (c_yes hS rfl (ok _ (by simp)) ?_)))))
      walk_at "w"
      refine hw.saved W rfl ?_
      walk_at "w"
      obtain ⟨c0, c1⟩ := hf
      have e : st.copies[c.toNat]? = some (st.copies.getD c.toNat 0) := by
        rw [List.getD_eq_getElem?_getD, List.getElem?_eq_getElem (by omega)]
        rfl
      refine ⟨cl, _, c, .int (st.copies.getD c.toNat 0), rfl, rfl, SqL.of hw.c, WK.at_ofG (j := c.toNat) (by omega) (by rw [List.getElem?_map, e]; rfl), ?_⟩
      refine hw.seats W rfl ?_
      walk_at "w"
      obtain ⟨o, d, h2, g2⟩ := hw.p_seat hn r (st.copies.getD c.toNat 0)
      refine ⟨_, _, rfl, d, ?_⟩
      exact q _ g2 h2
    | wait =>
      refine c_skip hS (by simp [Ev.vs]) (c_skip hS (by simp [Ev.vs]) (c_skip hS (by simp [Ev.vs]) (c_skip hS (by simp [Ev.vs]) (c_skip hS (by simp [Ev.vs]) (c_skip hS (by simp [Ev.vs]) (c_nil ?_))))))
      walk_at "w"
      exact q _ (Gr.refl _ _) ⟨hw.ob, hw.s.mono (by omega), hw.c, Nat.le_succ_of_le hw.cn⟩

end
end PK
namespace PK
open PySem L2
section
variable {P : Program} {w : World} {K : PySem.W.Frag} {mg : Str → Option Value} {base : Heap}
/-! dict(t) of pairs of numbers, dict comprehensions over anything that is walked, calls with nothing -/
open PyProof.Rows
abbrev inV (e : Int × Int) : Key × V := (.inl e.1, .int e.2)
def mrgI (l : List (Int × Int)) : List (Int × Int) := l.foldl (fun t e => putA t e.1 e.2) []
theorem mrgI_go : ∀ (l acc : List (Int × Int)), mergeK (seatsV acc) (l.map inV) = seatsV (l.foldl (fun t e => putA t e.1 e.2) acc) := by
  intro l
  induction l with
  | nil => exact fun _ => rfl
  | cons e l ih =>
    intro acc
    rw [List.map_cons, List.foldl_cons, ← ih]
    show mergeK (putK (seatsV acc) (.inl e.1) (.int e.2)) (l.map inV) = _
    rw [show putK (seatsV acc) (.inl e.1) (.int e.2) = seatsV (putA acc e.1 e.2) from put_map Sum.inl inl_inj V.int acc e.1 e.2]
theorem mrgI_tab (l : List (Int × Int)) : mergeK [] (l.map inV) = seatsV (mrgI l) := mrgI_go l []
theorem putA_new {l : List (Int × Int)} {a b : Int} (h : a ∉ l.map (·.1)) : putA l a b = l ++ [(a, b)] := by
  unfold putA
  rw [if_neg fun z => ?_]
  obtain ⟨q, hq, e⟩ := List.any_eq_true.mp z
  exact h (List.mem_map.mpr ⟨q, hq, of_decide_eq_true e⟩)
theorem mrg_nd : ∀ (l acc : List (Int × Int)), ((acc ++ l).map (·.1)).Nodup → l.foldl (fun t e => putA t e.1 e.2) acc = acc ++ l
  | [], acc, _ => by simp
  | e :: l, acc, h => by
    have n : e.1 ∉ acc.map (·.1) := fun z => by
      rw [List.map_append, List.map_cons] at h
      exact (List.nodup_append.mp h).2.2 _ z _ List.mem_cons_self rfl
    rw [List.foldl_cons, putA_new n, mrg_nd l (acc ++ [(e.1, e.2)]) (by simpa using h)]
    simp
theorem mrgI_nd {l : List (Int × Int)} (h : (l.map (·.1)).Nodup) : mrgI l = l := mrg_nd l [] h
section
variable {X : Cx}
theorem prs_ofI {H : Hp} {h : Heap} {P : Program} {w : World} (ok : HOk P w H h) : ∀ (xs : List V) (its : List Value) (l : List (Int × Int)), Vals xs its → Tps H xs (l.map fun e => [.int e.1, .int e.2]) →
    ∃ ps : List (Value × Value), ps.length = l.length ∧ its.length = l.length ∧ ∃ kvs : List (Key × Value), KV (l.map inV) kvs ∧ ∀ (j : Nat) (k v : Value), ps[j]? = some (k, v) → (∃ c, its[j]? = some (.ref c) ∧ IsTup h c #[k, v]) ∧ ∃ y, kvs[j]? = some (y, v) ∧ keyIs y k = true
  | [], its, [], r, _ => by
    cases r
    exact ⟨[], rfl, rfl, [], .nil, fun j k v e => by simp at e⟩
  | [], _, _ :: _, _, t => by cases t
  | _ :: _, _, [], _, t => by cases t
  | x :: xs, its, e :: l, r, t => by
    cases r with
    | cons r1 r2 =>
      cases t with
      | cons t1 t2 =>
        obtain ⟨ps, p1, p2, kvs, p3, p4⟩ := prs_ofI ok xs _ l r2 t2
        obtain ⟨c, rfl, hc⟩ := t1
        obtain ⟨_, its2, rv, tp⟩ := ok c _ hc
        obtain ⟨u1, u2, rfl, q1, q2⟩ := vals2 rv
        obtain ⟨t, rfl⟩ := q1
        obtain ⟨u, rfl⟩ := q2
        cases r1
        refine ⟨(.int e.1 t, .int e.2 u) :: ps, by rw [List.length_cons, List.length_cons, p1], by rw [List.length_cons, List.length_cons, p2], (.inl e.1, .int e.2 u) :: kvs, .cons ⟨rfl, u, rfl⟩ p3, fun j k v ej => ?_⟩
        match j with
        | 0 =>
          cases ej
          exact ⟨⟨c, rfl, tp⟩, _, rfl, keyIs_int _ _⟩
        | j + 1 => exact p4 j k v ej
/-- dict(t), t such a tuple of pairs -/
def rDictI : List V → Hp → VK → Prop := fun vs H Q => ∃ (b : Addr) (xs : List V) (l : List (Int × Int)), vs = [.ref b] ∧ FzT H b xs ∧ Tps H xs (l.map fun e => [.int e.1, .int e.2]) ∧ ∀ p, H p = none → Q (.ref p) (upd H p (.dK (seatsV (mrgI l))))
theorem call_dictI (hcalm : X.calm = true) : CallR X (.type "dict") rDictI := by
  intro pins s σ H vs us Q I r h
  obtain ⟨b, xs, l, rfl, ⟨ob, hb, hcl, hdi⟩, ht, q⟩ := h
  obtain rfl := Vals.ref1 r
  obtain ⟨hg, hz, its, rv, o, ho, hc, n, hd⟩ := I.hok b _ hb
  rw [hg] at ho
  obtain rfl := Option.some.inj ho
  obtain ⟨ps, p1, p2, kvs, kv, p4⟩ := prs_ofI I.hok xs its l rv ht
  have ll : kvs.length = l.length := by rw [← Paired.length kv, List.length_map]
  have xl := rv.length
  have P := PySem.PairArg.tuple (prog := X.prog) (w := X.w) b its.toArray (fun j => DT.refOf (its[j]?)) ps
  refine PySem.call_dict_pairs (knd := mixKind X.prog X.w) (kvs := kvs) P (I.ok.hd hcalm) ⟨⟨ob, n, hg, hc, hdi, hd⟩, by rw [List.size_toArray, p1, p2], fun j k v e => ?_⟩ ⟨by rw [ll, p1], fun i key v e => ?_⟩ (by rw [p1, ← p2]; omega) fun h' tk hd' hk => ?_
  · obtain ⟨⟨c, e1, e2⟩, _⟩ := p4 j k v e
    refine ⟨?_, .inl ?_⟩
    · simp only [List.getElem?_toArray, e1]
      rfl
    · dsimp only
      rw [e1]
      exact e2
  · obtain ⟨_, y, e1, e2⟩ := p4 i key v e
    exact ⟨y, e1, e2⟩
  · have hm : (s.heap.objs.size == sysModules) = false := beq_eq_false_iff_ne.mpr (Nat.ne_of_gt I.big)
    have hlen : (mergeK [] (l.map inV)).length ≤ sizeLine := by
      refine Nat.le_trans (length_mergeK (l.map inV) []) ?_
      rw [List.length_nil, List.length_map]
      omega
    have e0 := mrgI_tab l
    have q0 := q s.heap.objs.size (I.hok.fresh (Nat.le_refl _))
    rw [← e0] at q0
    exact ⟨.ref s.heap.objs.size, upd H s.heap.objs.size (.dK (mergeK [] (l.map inV))), I.laid (t' := tk) (fun b o e => hk b o (by simp) e) (Nat.le_refl _) (show ObjOk X.prog X.w _ _ _ (.dK (mergeK [] (l.map inV))) from ⟨hlen, hm, merged [] kvs, KV.merge kv .nil, hd'⟩), rfl, q0⟩
end
section
variable {X : Cx}
/-- name = {..} on one line, the name a local -/
theorem ps_setDc {i : Nat} {y : Str} {py : Pos} {kx vx tg iter : Expr} {ifs : List Expr} {scope : Scope} {own : List (Str × Nat)} {pos spos : Pos} {wi : TI} {g : TG} {tt : TT} {tk tv : TE} (hc : X.calm = true) (hN : X.N.Nodup) (hy : X.N[i]? = some y) (hyl : X.env.scope.names.lookup y = some .local)
    (hsw : swapsWith (.DictComp kx vx [⟨tg, iter, ifs, 0⟩] scope pos) (some (.Name y py)) spos.line X.env = pure true) (hi : PI X tg iter wi) (ok : BlkOk X.N X.env.scope scope own)
    (hg : ∀ (s : Shared) (H : Hp) (C : Addr) (cl : List (Str × Addr)) (fp : List Addr), PG (X.blk s H scope (compEnvC scope cl C X.env) fp) tg g) (ht : ∀ (s : Shared) (H : Hp) (C : Addr) (cl : List (Str × Addr)) (fp : List Addr), PTs (X.blk s H scope (compEnvC scope cl C X.env) fp) ifs tt)
    (hk : ∀ (s : Shared) (H : Hp) (C : Addr) (cl : List (Str × Addr)) (fp : List Addr), PE (X.blk s H scope (compEnvC scope cl C X.env) fp) kx tk)
    (he : ∀ (s : Shared) (H : Hp) (C : Addr) (cl : List (Str × Addr)) (fp : List Addr), PE (X.blk s H scope (compEnvC scope cl C X.env) fp) vx tv) (hs : ∀ x, foldedSetIterable iter X.env x = pure x := by intro _; rfl) :
    PS X (.Assign [.Name y py] (.DictComp kx vx [⟨tg, iter, ifs, 0⟩] scope pos) spos) (tAsg (tDc wi g tt tk tv (own.map (·.2))) (gName i)) := by
  refine ⟨fun pins s σ H D I h => ?_⟩
  rw [exec_Assign_Name_used _ _ _ _ hsw]
  refine wpAny_bind (wpAny_standAt (wpAny_bind ?_))
  show wpAny _ X.A (do let _ ← comprehension (.DictComp kx vx [⟨tg, iter, ifs, 0⟩] scope pos) scope X.env (firstIterPos [⟨tg, iter, ifs, 0⟩] pos) newDict false (eval iter X.env) (some (assign (.Name y py) X.env))) _ _ s
  have h : tDc wi g tt tk tv (own.map (·.2)) σ H (fun x H1 => gName i x σ H1 D.nx) := h
  refine wpAny_bind (thn (dc_core (Qf := fun _ s' => SP X pins D .next s') hc hN I hi ok hg ht hk he hs h fun L C s' m H' I' q hn f => ?_) fun _ s' hq => wpAny_pure (wpAny_pure hq))
  show wpAny _ _ (assign (.Name y py) X.env (.ref L)) _ _ _
  refine wpAny_assign_Name (store_ok2 (v := V.ref L) I' hN hy (.inl hyl) rfl (fun s2 I2 ⟨a, sb, ha⟩ => ?_) (.inr hyl))
  obtain ⟨f0, f1, f2, f3, f4, f5⟩ := f
  have haC : C ≠ a := by
    rcases ha with z | z
    · rw [z]; exact f1
    · exact fun e => f4 y a z e.symm
  refine ⟨m, hn.sameBut sb haC, fun h3 sb3 => ?_⟩
  exact ⟨_, H', I2.turned (t' := s2.toks) (fun b o hb e => (sb3.2 b hb).trans e) f0 f1 f3 f4 f5, q⟩
theorem sw_trueD {kx vx : Expr} {gs : List Comprehension} {scope : Scope} {pos py : Pos} {y : Str} {l : Nat} {env : Env} (hk : env.scope.kind = .function) (hy : env.scope.names.lookup y = some .local) (hl : (py.line == pos.line) = true)
    (ha : (scope.names.any fun (n, k) => n == y && (k == .local || k == .cell)) = false) : swapsWith (.DictComp kx vx gs scope pos) (some (.Name y py)) l env = pure true := by
  have ky : env.kindOf y = some .local := hy
  have hb : env.blockKind = .function := by unfold Env.blockKind; rw [hk]; rfl
  unfold swapsWith
  simp only [hb, ky, ha, Expr.pos, hl]
  rfl
end
theorem dc_go {J : It} {n : Nat} {G : Hp → Prop} {Y : Nat → Hp → V → Hp → Prop} {g : TG} {tt : TT} {tk tv : TE} {vs : List Nat} {σ : L2.St} {H1 : Hp} {D : Addr} {Qd : Hp → Prop} (w : Walk J n G Y) (Pv : Nat → Hp → Prop) (h0 : Pv 0 (upd H1 D (.dK []))) (hG : ∀ i H, i ≤ n → Pv i H → G H)
    (hs : ∀ i x H H2, i < n → Pv i H → Y i H x H2 → g x (wipe σ vs) H2 fun σ2 H3 => wipe σ2 vs = wipe σ vs ∧ tt σ2 H3 fun b H4 =>
      if b = true then tk σ2 H4 fun y H5 => tv σ2 H5 fun z H6 => ∃ kvs k, y = kV k ∧ H6 D = some (.dK kvs) ∧ kvs.length < sizeLine ∧ Pv (i + 1) (upd H6 D (.dK (putK kvs k z))) else Pv (i + 1) H4) (hd : ∀ H, Pv n H → Qd H) :
    ∃ W : Nat → Nat → Hp → Prop, (∃ m, W 0 m (upd H1 D (.dK []))) ∧ ∀ i m H, W i m H →
      (J.stop i H ∧ Qd H) ∨ (J.go i H ∧ ∃ Nx : Hp → Prop, (∀ H', Nx H' → ∃ m', m' < m ∧ W (i + 1) m' H') ∧ ∀ x H', J.yld i H x H' → g x (wipe σ vs) H' fun σ2 H2 => wipe σ2 vs = wipe σ vs ∧ tt σ2 H2 fun b H3 =>
        if b = true then tk σ2 H3 fun y H4 => tv σ2 H4 fun z H5 => ∃ kvs k, y = kV k ∧ H5 D = some (.dK kvs) ∧ kvs.length < sizeLine ∧ Nx (upd H5 D (.dK (putK kvs k z))) else Nx H3) := by
  refine ⟨fun i m H => m = n - i ∧ i ≤ n ∧ Pv i H, ⟨n, by simp, Nat.zero_le _, h0⟩, ?_⟩
  rintro i m H ⟨rfl, hi, p⟩
  have q := hG i H hi p
  by_cases hlt : i < n
  · exact .inr ⟨w.goes i H hlt q, Pv (i + 1), fun H' p' => ⟨n - (i + 1), by omega, rfl, hlt, p'⟩, fun x H' y => hs i x H H' hlt p (w.yields i H x H' hlt q y)⟩
  · have e : i = n := by omega
    subst e
    exact .inl ⟨w.stops H q, hd H p⟩
theorem w_dc {wi : TI} {g : TG} {tt : TT} {tk tv : TE} {vs : List Nat} {σ : L2.St} {H : Hp} {Q : VK} (k : wi σ H fun J H1 => ∀ D, H1 D = none → ∃ W : Nat → Nat → Hp → Prop, (∃ m, W 0 m (upd H1 D (.dK []))) ∧ ∀ i m H, W i m H →
  (J.stop i H ∧ Q (.ref D) H) ∨ (J.go i H ∧ ∃ Nx : Hp → Prop, (∀ H', Nx H' → ∃ m', m' < m ∧ W (i + 1) m' H') ∧ ∀ x H', J.yld i H x H' → g x (wipe σ vs) H' fun σ2 H2 => wipe σ2 vs = wipe σ vs ∧ tt σ2 H2 fun b H3 =>
    if b = true then tk σ2 H3 fun y H4 => tv σ2 H4 fun z H5 => ∃ kvs k, y = kV k ∧ H5 D = some (.dK kvs) ∧ kvs.length < sizeLine ∧ Nx (upd H5 D (.dK (putK kvs k z))) else Nx H3)) : tDc wi g tt tk tv vs σ H Q := k
section
variable {X : Cx} {k : Nat} {x : Str} {ps : List Str} {sp : Sp} {pos p : Pos}
theorem pe_call0H (D : Has X.prog X.w X.K X.mg X.base k x ps sp) (hr : Room k X.A) (hg : Gl X x) (hdb : (x == ("__debug__" : Str)) = false := by decide) : PE X (.Call (.Name x p) [] [] pos) (tCall sp [] E0 tNil) := by
  obtain ⟨f, fd, F, m, kp, b⟩ := D.ex
  exact pe_call0 F hr hg m kp b .nil pass0 hdb
end

end
end PK
namespace PK
open PySem L2
section
variable {P : Program} {w : World} {K : PySem.W.Frag} {mg : Str → Option Value} {base : Heap}
/-- a def that is called by place with less than all its parameters: dvs are the rest -/
structure HasB (P : Program) (w : World) (K : PySem.W.Frag) (mg : Str → Option Value) (base : Heap) (k : Nat) (x : Str) (ps : List Str) (dvs : List V) (sp : Sp) : Prop where
  ex : ∃ f fd ds, FnOk P w K mg base CX0 k f fd ps sp ∧ mg x = some (.ref f) ∧ PySem.W.keepIn K (.ref f) = true ∧ Binds K fd ps ds ∧ Vals dvs ds
/-- .. by names alone -/
structure HasK (P : Program) (w : World) (K : PySem.W.Frag) (mg : Str → Option Value) (base : Heap) (k : Nat) (x : Str) (ps ks : List Str) (gV : List V → List V → List V) (sp : Sp) : Prop where
  ex : ∃ f fd g, FnOk P w K mg base CX0 k f fd ps sp ∧ mg x = some (.ref f) ∧ PySem.W.keepIn K (.ref f) = true ∧ KBn K fd ps 0 ks g gV
/-- an own class that is made by names alone -/
structure HasIK (P : Program) (w : World) (K : PySem.W.Frag) (mg : Str → Option Value) (base : Heap) (C : Addr) (k : Nat) (x : Str) (ps ks : List Str) (gV : List V → List V → List V) (sp : Sp) : Prop where
  ex : ∃ f fd g, FnOk P w K mg base CX0 k f fd ps sp ∧ Mk K C f ∧ mg x = some (.ref C) ∧ KBn K fd ps 1 ks g gV
section
variable {X : Cx} {k : Nat} {x : Str} {ps ks : List Str} {dvs : List V} {sp : Sp} {gV : List V → List V → List V} {e : Expr} {es : List Expr} {kws : List Keyword} {pos p : Pos} {t : TA} {C : Addr}
theorem pe_callHB (D : HasB X.prog X.w X.K X.mg X.base k x ps dvs sp) (hr : Room k X.A) (hg : Gl X x) (ha : PA X (e :: es) t) (hdb : (x == ("__debug__" : Str)) = false := by decide)
    (he : starEach (e :: es) X.env = (false, eval e X.env) :: starEach es X.env := by rfl) (hpl : (backTo pos (starEach es X.env)).any (·.1) = false := by rfl) :
    PE X (.Call (.Name x p) (e :: es) [] pos) (tCall sp dvs E0 t) := by
  obtain ⟨f, fd, ds, F, m, kp, b, r⟩ := D.ex
  exact pe_call F hr hg m kp b r pass0 ha hdb he hpl
theorem pe_callHK (D : HasK X.prog X.w X.K X.mg X.base k x ps ks gV sp) (room : Room k X.A) (hg : Gl X x) (kw : L2.PK X kws t) (named : (backToKw pos (keywordEach kws X.env)).all (·.1.isSome) = true := by rfl)
    (names : (backToKw pos (keywordEach kws X.env)).filterMap (·.1) = ks := by rfl) (hdb : (x == ("__debug__" : Str)) = false := by decide)
    (plain : ((backTo pos (starEach [] X.env)).any (·.1) || (backToKw pos (keywordEach kws X.env)).any (·.1.isNone)) = false := by rfl) : PE X (.Call (.Name x p) [] kws pos) (tCallN 0 ks.length sp gV E0 tNil t) := by
  obtain ⟨f, fd, g, F, m, kp, kb⟩ := D.ex
  refine ⟨fun pins s σ H Q I want => wpAny_Call_Name_kw (ld_glob I hg m ?_ hdb)⟩
  refine PySem.W.callWith_KW0 (h₀ := X.base) I.ok.mod.kin kp named ?_ plain
  rw [names]
  exact thn (kw.run pos pins s σ H _ I want) fun ws s1 ⟨zs, H1, I1, rel, l1, l2, go⟩ => ⟨I1.kIn, run_fnN (us := []) (vs := []) F room kb pass0 I1 .nil rel l1 l2 go⟩
theorem pe_makeHK (D : HasIK X.prog X.w X.K X.mg X.base C k x ps ks gV sp) (hr : Room (k + 1) X.A) (hg : Gl X x) (kw : L2.PK X kws t) (hall : (backToKw pos (keywordEach kws X.env)).all (·.1.isSome) = true := by rfl)
    (hks : (backToKw pos (keywordEach kws X.env)).filterMap (·.1) = ks := by rfl) (hdb : (x == ("__debug__" : Str)) = false := by decide)
    (hpl : ((backTo pos (starEach [] X.env)).any (·.1) || (backToKw pos (keywordEach kws X.env)).any (·.1.isNone)) = false := by rfl) :
    PE X (.Call (.Name x p) [] kws pos) (tMakeK C 0 ks.length sp gV E0 tNil t) := by
  obtain ⟨f, fd, g, F, M, m, kb⟩ := D.ex
  exact pe_makeK0 M F hr hg m kb pass0 kw hall hks hdb hpl
end
theorem WK.w_callB {sp : Sp} {dvs : List V} {t : TA} {σ : L2.St} {H : Hp} {Q : VK} (k : t σ H fun vs H1 => sp (vs ++ dvs) H1 Q E0) : tCall sp dvs E0 t σ H Q := k
theorem WK.w_callK {n m : Nat} {sp : Sp} {gV : List V → List V → List V} {t tk : TA} {σ : L2.St} {H : Hp} {Q : VK} (k : t σ H fun vs H1 => tk σ H1 fun zs H2 => vs.length = n ∧ zs.length = m ∧ sp (gV vs zs) H2 Q E0) : tCallN n m sp gV E0 t tk σ H Q := k
theorem WK.w_mkK {C : Addr} {n m : Nat} {sp : Sp} {gV : List V → List V → List V} {t tk : TA} {σ : L2.St} {H : Hp} {Q : VK} (k : t σ H fun vs H1 => tk σ H1 fun zs H2 => vs.length = n ∧ zs.length = m ∧ ∀ x dx, H2 x = none → H2 dx = none → dx ≠ x →
    sp (gV (.ref x :: vs) zs) (upd (upd H2 dx (.own x)) x (.ins C dx [])) (fun v H3 => v = .non ∧ Q (.ref x) H3) E0) : tMakeK C n m sp gV E0 t tk σ H Q := k
theorem WK.w_methE {C : Addr} {m : Str} {sp : Sp} {dvs : List V} {E : XK} {ta : TE} {t : TA} {σ : L2.St} {H : Hp} {Q : VK} (k : ta σ H fun x H1 => ∃ a dx fs, x = .ref a ∧ H1 a = some (.ins C dx fs) ∧ fs.lookup m = none ∧ t σ H1 fun vs H2 => sp (x :: (vs ++ dvs)) H2 Q E) : tMeth C m sp dvs E ta t σ H Q := k

end
end PK
namespace PK
open PySem L2
section
variable {P : Program} {w : World} {K : PySem.W.Frag} {mg : Str → Option Value} {base : Heap}
/-! reads in the place of waits, as mathematics -/
def rdE (ps : List (Int × Int)) (i : Nat) (w : WS) (e : Ev) : Ev :=
  match getA ps (i : Int) with
  | some r => .read r w.many
  | none => e
def stE (w : WS) : Ev → Ev
  | .read r u => if fitsB w (.read r u) = true then .read r u else .wait
  | e => e
def wD (ps : List (Int × Int)) (es : List Ev) : Nat → List Ev
  | 0 => []
  | i + 1 => match es[i]? with
    | some e => wD ps es i ++ [stE (WS.nil.run (wD ps es i)) (rdE ps i (WS.nil.run (wD ps es i)) e)]
    | none => wD ps es i
theorem wD_succ {ps : List (Int × Int)} {es : List Ev} {i : Nat} {e : Ev} (h : es[i]? = some e) : wD ps es (i + 1) = wD ps es i ++ [stE (WS.nil.run (wD ps es i)) (rdE ps i (WS.nil.run (wD ps es i)) e)] := by
  show (match es[i]? with | some e => _ | none => _) = _
  rw [h]
structure RdOk (es : List Ev) (ps : List (Int × Int)) : Prop where
  nd : (ps.map (·.1)).Nodup
  at_ : ∀ p ∈ ps, ∃ t : Nat, p.1 = t ∧ es[t]? = some .wait ∧ ∃ z, (WS.nil.run (es.take t)).seats p.2 = some z
/-- alike but for where readers are -/
structure Mate (a b : WS) : Prop where
  m : a.many = b.many
  c : a.copies.length = b.copies.length
  s : ∀ r z, b.seats r = some z → ∃ y, a.seats r = some y
theorem getA_mem {ps : List (Int × Int)} {i r : Int} (h : getA ps i = some r) : (i, r) ∈ ps := by
  unfold getA at h
  cases e : ps.find? (fun p => decide (p.1 = i)) with
  | none => rw [e] at h; cases h
  | some p =>
    rw [e] at h
    cases h
    have z := List.mem_of_find?_eq_some e
    have q := List.find?_some e
    have q : p.1 = i := of_decide_eq_true q
    rw [← q]
    exact z
theorem Mate.seat {a b : WS} (h : Mate a b) (r p q : Int) : Mate (a.seat r p) (b.seat r q) := ⟨h.m, h.c, fun i z e => by
  show ∃ y, (if i = r then some p else a.seats i) = some y
  by_cases n : i = r
  · exact ⟨p, if_pos n⟩
  · have e : (if i = r then some q else b.seats i) = some z := e
    rw [if_neg n] at e ⊢
    exact h.s i z e⟩
/-- a read that is there, or is put there -/
theorem mate_read {a b : WS} (h : Mate a b) {r u z : Int} (hz : b.seats r = some z) (hu : u ≤ b.many) (s : WS) (hs : Mate a s ∧ ∀ p, Mate (a.seat r p) s) : a.fits (stE a (.read r u)) ∧ Mate (a.step (stE a (.read r u))) s := by
  obtain ⟨y, hy⟩ := h.s r z hz
  have e : stE a (.read r u) = if fitsB a (.read r u) = true then .read r u else .wait := rfl
  rw [e]
  by_cases f : fitsB a (.read r u) = true
  · rw [if_pos f]
    refine ⟨?_, hs.2 u⟩
    simp [fitsB, hy] at f
    exact ⟨y, hy, f⟩
  · rw [if_neg f]
    exact ⟨trivial, hs.1⟩
theorem Mate.weak {a b : WS} (h : Mate a b) {r z : Int} (hz : b.seats r = some z) (p : Int) : Mate (a.seat r p) b := ⟨h.m, h.c, fun i y e => by
  show ∃ y, (if i = r then some p else a.seats i) = some y
  by_cases n : i = r
  · exact ⟨p, if_pos n⟩
  · rw [if_neg n]
    exact h.s i y e⟩
theorem mate_step {a b : WS} (h : Mate a b) {ps : List (Int × Int)} {i : Nat} {e : Ev} (f : b.fits e) (hp : ∀ r, getA ps (i : Int) = some r → e = .wait ∧ ∃ z, b.seats r = some z) : a.fits (stE a (rdE ps i a e)) ∧ Mate (a.step (stE a (rdE ps i a e))) (b.step e) := by
  unfold rdE
  cases g : getA ps (i : Int) with
  | some r =>
    obtain ⟨rfl, z, hz⟩ := hp r g
    exact mate_read h hz (by rw [h.m]; exact Int.le_refl _) b ⟨h, fun p => h.weak hz p⟩
  | none =>
    cases e with
    | put k v => exact ⟨trivial, by show a.many + 1 = b.many + 1; rw [h.m], h.c, h.s⟩
    | drop k => exact ⟨trivial, by show a.many + 1 = b.many + 1; rw [h.m], h.c, h.s⟩
    | join r => exact ⟨trivial, h.seat r 0 0⟩
    | read r u =>
      obtain ⟨z, f1, f2, f3⟩ := f
      exact mate_read h f1 f3 (b.seat r u) ⟨⟨h.m, h.c, fun i y e => by
        have e : (if i = r then some u else b.seats i) = some y := e
        by_cases n : i = r
        · rw [n]
          exact h.s r z f1
        · rw [if_neg n] at e
          exact h.s i y e⟩, fun p => h.seat r p u⟩
    | save r =>
      obtain ⟨z, f1⟩ := f
      obtain ⟨y, hy⟩ := h.s r z f1
      exact ⟨⟨y, hy⟩, h.m, by
        show (a.copies ++ [(a.seats r).getD 0]).length = (b.copies ++ [(b.seats r).getD 0]).length
        rw [List.length_append, List.length_append, h.c]
        rfl, h.s⟩
    | load r c =>
      obtain ⟨f1, f2⟩ := f
      exact ⟨⟨f1, by rw [h.c]; exact f2⟩, h.seat r _ _⟩
    | wait => exact ⟨trivial, h⟩
structure WdOk (ps : List (Int × Int)) (es : List Ev) (i : Nat) : Prop where
  m : Mate (WS.nil.run (wD ps es i)) (WS.nil.run (es.take i))
  v : Valid .nil (wD ps es i)
  l : (wD ps es i).length = i
  k : ∀ e ∈ wD ps es i, e.kok
theorem rd_at {es : List Ev} {ps : List (Int × Int)} (h : RdOk es ps) {i : Nat} {e : Ev} (he : es[i]? = some e) : ∀ r, getA ps (i : Int) = some r → e = .wait ∧ ∃ z, (WS.nil.run (es.take i)).seats r = some z := fun r g => by
  obtain ⟨t, e1, e2, e3⟩ := h.at_ _ (getA_mem g)
  have e1 : (i : Int) = (t : Int) := e1
  obtain rfl : i = t := by omega
  rw [he] at e2
  exact ⟨Option.some.inj e2, e3⟩
theorem st_kok {w : WS} {e : Ev} (h : e.kok) : (stE w e).kok := by
  cases e with
  | read r u =>
    have e : stE w (.read r u) = if fitsB w (.read r u) = true then .read r u else .wait := rfl
    rw [e]
    split <;> trivial
  | _ => exact h
theorem rd_kok {ps : List (Int × Int)} {i : Nat} {w : WS} {e : Ev} (h : e.kok) : (rdE ps i w e).kok := by
  unfold rdE
  split
  · trivial
  · exact h
theorem wd_ok {es : List Ev} {ps : List (Int × Int)} (va : Valid .nil es) (hk : ∀ e ∈ es, e.kok) (h : RdOk es ps) : ∀ i, i ≤ es.length → WdOk ps es i
  | 0, _ => ⟨⟨rfl, rfl, fun r z e => by cases e⟩, trivial, rfl, fun e he => by cases he⟩
  | i + 1, hi => by
    obtain ⟨m, v, l, k⟩ := wd_ok va hk h i (by omega)
    have he : es[i]? = some (es[i]'(by omega)) := List.getElem?_eq_getElem _
    generalize es[i]'(by omega) = e at *
    obtain ⟨f1, f2⟩ := mate_step m (valid_take va i he) (rd_at h he)
    refine ⟨?_, ?_, ?_, ?_⟩
    · rw [wD_succ he, take_snoc he, run_snoc, run_snoc]
      exact f2
    · rw [wD_succ he]
      exact valid_append.mpr ⟨v, f1, trivial⟩
    · rw [wD_succ he, List.length_append, l]
      rfl
    · rw [wD_succ he]
      intro d hd
      rcases List.mem_append.mp hd with z | z
      · exact k d z
      · rw [List.mem_singleton.mp z]
        exact st_kok (rd_kok (hk e (List.mem_of_getElem? he)))
/-- what is done at a time comes there -/
theorem wd_fits {es : List Ev} {ps : List (Int × Int)} (va : Valid .nil es) (hk : ∀ e ∈ es, e.kok) (h : RdOk es ps) {i : Nat} {e : Ev} (he : es[i]? = some e) : (WS.nil.run (wD ps es i)).fits (stE (WS.nil.run (wD ps es i)) (rdE ps i (WS.nil.run (wD ps es i)) e)) :=
  (mate_step (wd_ok va hk h i (Nat.le_of_lt (List.getElem?_eq_some_iff.mp he).1)).m (valid_take va i he) (rd_at h he)).1

end
end PK
namespace PK
open PySem L2
section
variable {P : Program} {w : World} {K : PySem.W.Frag} {mg : Str → Option Value} {base : Heap}
abbrev s_law_start : Stmt := topS 14
abbrev N_law_start : List Str := []
abbrev ps_law_start : List Str := []
theorem sc_law_start : FnScope N_law_start ps_law_start (defScope s_law_start) := ⟨rfl, rfl, rfl, by decide +kernel, rfl, by decide +kernel, by decide +kernel⟩
def spStart : Sp := fun vs H Q _ => vs = [] ∧ ∀ (w sd cl : Addr) (H' : Hp), H w = none → H sd = none → H cl = none → Gr [] H H' → WAt H' w sd cl .nil 0 → Q (.ref w) H'
theorem has_start (D : Df K mg "_law_start" s_law_start ps_law_start) (T : Txt mg) : Has P w K mg base 1 "_law_start" ps_law_start spStart := Has.mk' D fun f fd F => by
  refine F.ok sc_law_start (fun vs H Q E h => ?_) (fun cdv A outer s H vs Q E hr h => ?_)
  · obtain ⟨rfl, _⟩ := h
    rfl
  · obtain ⟨rfl, q⟩ := h
    refine ⟨_, (pss_one (ps_ret (pe_disp (pps_cons pe_str pe_dnewK (pps_cons pe_str (pe_lst pa_nil) (pps_cons pe_str pe_int pps_nil))) (by rfl) (by rfl) (fun z => by cases z) (by decide)))), ?_⟩
    walk_at "w"
    exact w_wdict fun wa sd cl H1 nw ns nc g1 hw => q wa sd cl H1 nw ns nc g1 hw

end
end PK
namespace PK
open PySem L2
section
variable {P : Program} {w : World} {K : PySem.W.Frag} {mg : Str → Option Value} {base : Heap}
theorem st_read {w : WS} {r u y : Int} (hy : w.seats r = some y) (hu : u ≤ w.many) : stE w (.read r u) = if u ≤ y then .wait else .read r u := by
  have e : stE w (.read r u) = if fitsB w (.read r u) = true then .read r u else .wait := rfl
  have f : fitsB w (.read r u) = (decide (y < u) && decide (u ≤ w.many)) := by simp [fitsB, hy]
  rw [e, f]
  by_cases h : u ≤ y
  · rw [if_neg (by simp; omega), if_pos h]
  · rw [if_pos (by simp; omega), if_neg h]
theorem IsEv.word {H : Hp} {v : V} {e : Ev} (h : IsEv H v e) : ∃ a, v = .ref a ∧ H a = some (.tup e.vs) := h
theorem kok_word {e : Ev} : e.vs[0]? = some (.str e.word) := by cases e <;> rfl
/-- what a read at a time would be: of a reader that there is, of no more than there is -/
theorem rd_read {es : List Ev} {ps : List (Int × Int)} {i : Nat} {e : Ev} {a : WS} (m : Mate a (WS.nil.run (es.take i))) (f : (WS.nil.run (es.take i)).fits e) (hp : ∀ r, getA ps (i : Int) = some r → e = .wait ∧ ∃ z, (WS.nil.run (es.take i)).seats r = some z) {r u : Int} (h : rdE ps i a e = .read r u) : ∃ y, a.seats r = some y ∧ u ≤ a.many := by
  unfold rdE at h
  cases g : getA ps (i : Int) with
  | some r' =>
    rw [g] at h
    cases h
    obtain ⟨_, z, hz⟩ := hp r g
    obtain ⟨y, hy⟩ := m.s r z hz
    exact ⟨y, hy, Int.le_refl _⟩
  | none =>
    rw [g] at h
    have h : e = .read r u := h
    rw [h] at f
    obtain ⟨z, f1, f2, f3⟩ := f
    obtain ⟨y, hy⟩ := m.s r z f1
    exact ⟨y, hy, by rw [m.m]; exact f3⟩
theorem prs_get {H : Hp} {a : Addr} {l : List (Int × Int)} (h : H a = some (.dK (seatsV l))) (r : Int) : DGet H a (.int r) ((getA l r).map V.int) := by
  have q := DGet.k (k := .inl r) h
  rw [show valV (seatsV l) (.inl r) = (getA l r).map V.int from get_map Sum.inl inl_inj V.int l r] at q
  exact q
abbrev s_law_with : Stmt := topS 15
abbrev N_law_with : List Str := ["_law_table_here", "_law_some", "_law_found", "_law_w", "_law_extra", "_law_spot", "_law_event_so", "_law_one_so"]
abbrev ps_law_with : List Str := ["_law_table_here", "_law_some"]
theorem sc_law_with : FnScope N_law_with ps_law_with (defScope s_law_with) := ⟨rfl, rfl, rfl, by decide +kernel, rfl, by decide +kernel, by decide +kernel⟩
def spWith : Sp := fun vs H Q _ => ∃ (v : V) (t : Addr) (es : List Ev) (ps : List (Int × Int)) (zs : List V), vs = [v, .ref t] ∧ IsTT H v es ∧ FzT H t zs ∧ Tps H zs (ps.map fun e => [.int e.1, .int e.2]) ∧ Valid .nil es ∧ (∀ e ∈ es, e.kok) ∧ RdOk es ps ∧ es.length ≤ 100 ∧
  ∀ (v' : V) (H' : Hp), Gr [] H H' → IsTT H' v' (wD ps es es.length) → Q v' H'
theorem has_with (D : Df K mg "_law_with" s_law_with ps_law_with) (T : Txt mg) (G_law_start : Has P w K mg base 1 "_law_start" ps_law_start spStart) (G_law_moved : Has P w K mg base 1 "_law_moved" ps_law_moved spMoved) : Has P w K mg base 2 "_law_with" ps_law_with spWith := Has.mk' D fun f fd F => by
  refine F.ok sc_law_with (fun vs H Q E h => ?_) (fun cdv A outer s H vs Q E hr h => ?_)
  · obtain ⟨v, t, es, ps, zs, rfl, _⟩ := h
    rfl
  · obtain ⟨_, t, es, ps, zs, rfl, ⟨a, ts, rfl, ha, hev⟩, hz, ht, va, kok, ro, len, q⟩ := h
    refine ⟨_, (pss_cons (ps_par3 (i := 2) (j := 3) (l := 4) (by rfl) sc_law_with.nd rfl rfl rfl (by decide) (by decide) (by decide) rfl rfl rfl (pa_cons (pe_lst pa_nil) (pa_cons (pe_call0H G_law_start (hr.mono (by decide)) (by rfl)) (pa_cons (pe_callTy (call_dictI rfl) (by rfl) T.m_dict (by decide +kernel) (pa_cons (pv 1) pa_nil)) pa_nil))) (by rfl))
(pss_cons (ps_for PassesOwn.never rfl (pi_enT (by rfl) T.m_enumerate (pa_cons (pv 0) pa_nil)) (pg_tup rfl (pgs_cons (pg_name (i := 5) sc_law_with.nd rfl (Or.inl rfl)) (pgs_cons (pg_name (i := 6) sc_law_with.nd rfl (Or.inl rfl)) pgs_nil)))
  (pss_cons (ps_set (i := 7) sc_law_with.nd rfl (Or.inl rfl) (pe_ifExp (pt_cmp (pc_din (hu_of hr) (pv 5) (pv 4))) (pe_tup (pa_cons pe_str (pa_cons (pe_dget (hu_of hr) (pv 4) (pv 5) (fun _ _ => rfl)) (pa_cons (pe_dget (hu_of hr) (pv 3) pe_str (fun _ _ => rfl)) pa_nil)))) (pv 6)))
  (pss_cons (ps_if (PW.pt (pw_and (pt_cmpR op_eq (pe_ix (ix_tupK (K := K)) (pv 7) pe_int (fun _ _ => rfl)) pe_str (nomark _)) (pw_and1 (pt_cmpR op_le (pe_ix (ix_tupK (K := K)) (pv 7) pe_int (fun _ _ => rfl)) (pe_dget (hu_of hr) (pe_dget (hu_of hr) (pv 3) pe_str (fun _ _ => rfl)) (pe_ix (ix_tupK (K := K)) (pv 7) pe_int (fun _ _ => rfl)) (fun _ _ => rfl)) (nomark _)))))
    (pss_one (ps_set (i := 7) sc_law_with.nd rfl (Or.inl rfl) (pe_tup (pa_cons pe_str pa_nil))))
    pss_nil)
  (pss_cons (ps_expr (pe_callH G_law_moved (hr.mono (by decide)) (by rfl) (pa_cons (pv 3) (pa_cons (pv 7) pa_nil))))
  (pss_one (ps_expr (pe_bm PySem.F.plainAttrs_list PySem.F.slot_list_append PySem.F.type_list_append mt_append (pv 2) (pa_cons (pv 7) pa_nil))))))))
(pss_one (ps_ret (pe_callTy (call_tuple_ofK (K := K)) (by rfl) T.m_tuple (by decide +kernel) (pa_cons (pv 2) pa_nil)))))), ?_⟩
    walk_at "w"
    refine ⟨WK.sz, fun L nL => ?_⟩
    walk_at "w"
    have g0 : Gr [] H (upd H L (.lst [])) := Gr.new nL
    have l0 : (upd H L (.lst [])) L = some (.lst []) := upd_same
    generalize (upd H L (.lst [])) = H0 at *
    refine ⟨rfl, fun wa sd cl H1 nw ns nc g1 hw => ?_⟩
    have l1 := g1.k0 l0
    have Lw : L ≠ wa := ne_of_none l0 nw
    have Ls : L ≠ sd := ne_of_none l0 ns
    have Lc : L ≠ cl := ne_of_none l0 nc
    walk_at "w"
    refine ⟨t, zs, ps, rfl, (hz.gr g0).gr g1, (ht.gr g0).gr g1, fun d nd => ?_⟩
    rw [mrgI_nd ro.nd]
    have dL : L ≠ d := ne_of_none l1 nd
    have dw : wa ≠ d := ne_of_none hw.w nd
    have dc : cl ≠ d := ne_of_none hw.c nd
    have ds : sd ≠ d := by
      obtain ⟨kvs, ks, hs, _⟩ := hw.s
      exact ne_of_none hs nd
    have g2 : Gr [] H1 (upd H1 d (.dK (seatsV ps))) := Gr.new nd
    have hd : (upd H1 d (.dK (seatsV ps))) d = some (.dK (seatsV ps)) := upd_same
    have hw2 := hw.keep g2 (by simp) (by simp) (by simp)
    have l2 := g2.k0 l1
    have g02 := (g0.trans g1).trans g2
    have nwH := g0.live _ nw
    have nsH := g0.live _ ns
    have ncH := g0.live _ nc
    generalize (upd H1 d (.dK (seatsV ps))) = Hb at *
    clear hw l0 l1 g0 g1 g2
    walk_at "w"
    refine ⟨a, ts, rfl, SqT.of (g02.tup _ _ ha), ?_⟩
    refine lp_it (walk_enT (xs := ts)) (fun i σ' H' => ∃ xs y5 y6 y7, σ' = [some (.ref a), some (.ref t), some (.ref L), some (.ref wa), some (.ref d), y5, y6, y7] ∧ Gr [] H H' ∧ H' L = some (.lst xs) ∧ Evs H' xs (wD ps es i) ∧ WAt H' wa sd cl (WS.nil.run (wD ps es i)) i ∧ H' d = some (.dK (seatsV ps)))
      ⟨[], none, none, none, rfl, g02, l2, .nil, hw2, hd⟩ (fun i σ' H' _ ⟨_, _, _, _, _, g, _⟩ => SqT.of (g.tup _ _ ha)) ?_ ?_
    · rintro i x _ H2 H3 hi ⟨xs, y5, y6, y7, rfl, g2, hl2, hx2, hw2, hd2⟩ ⟨tt, p1, p2, rfl, nt, rfl, e1, e2⟩
      cases e1
      obtain ⟨e, he, ⟨c, rfl, hc⟩⟩ := pr_get hev e2
      have il := (List.getElem?_eq_some_iff.mp he).1
      have wo := wd_ok va kok ro i (by omega)
      have ft := wd_fits va kok ro he
      have rr := fun {r u} => rd_read (r := r) (u := u) wo.m (valid_take va i he) (rd_at ro he)
      have xl : xs.length ≤ 100 := by
        rw [hx2.length, wo.l]
        omega
      rw [wD_succ he]
      generalize hst : WS.nil.run (wD ps es i) = st at *
      have g3 : Gr [] H2 (upd H2 tt (.tup [.int (i : Nat), .ref c])) := Gr.new nt
      have hc3 := g3.tup _ _ (g2.tup _ _ hc)
      have hl3 := g3.k0 hl2
      have hx3 := hx2.gr g3
      have hd3 := g3.k0 hd2
      have hw3 := hw2.keep g3 (by simp) (by simp) (by simp)
      have g03 := g2.trans g3
      have ht3 : (upd H2 tt (.tup [.int (i : Nat), .ref c])) tt = some (.tup [.int (i : Nat), .ref c]) := upd_same
      generalize (upd H2 tt (.tup [.int (i : Nat), .ref c])) = H3 at *
      clear g2 g3 hl2 hx2 hd2 hw2 hc
      walk_at "w"
      refine WK.w_gen (fun v' H' => Gr [] H3 H' ∧ IsEv H' v' (rdE ps i st e)) ?_ (fun Q0 h0 => ?_)
      rotate_left
      · walk_at "i"
        refine ⟨_, _, rfl, prs_get hd3 _, ?_⟩
        cases g : getA ps (i : Int) with
        | some r =>
          have er : rdE ps i st e = .read r st.many := by unfold rdE; rw [g]
          walk_at "w"
          refine WK.w_ifP rfl ?_
          walk_at "w"
          have q3 := prs_get hd3 (i : Int)
          rw [g] at q3
          refine ⟨_, _, rfl, q3, ?_⟩
          walk_at "w"
          refine ⟨_, _, rfl, hw3.g_many, ?_⟩
          walk_at "w"
          refine ⟨WK.sz, fun z nz => ?_⟩
          refine h0 _ _ ⟨Gr.new nz, z, rfl, ?_⟩
          rw [er]
          exact upd_same
        | none =>
          have er : rdE ps i st e = e := by unfold rdE; rw [g]
          walk_at "w"
          refine WK.w_ifN (by decide) ?_
          walk_at "w"
          exact h0 _ _ ⟨Gr.refl _ _, c, rfl, by rw [er]; exact hc3⟩
      · rintro _ H4 ⟨g4, z, rfl, hz4⟩
        have hl4 := g4.k0 hl3
        have hx4 := hx3.gr g4
        have hd4 := g4.k0 hd3
        have hw4 := hw3.keep g4 (by simp) (by simp) (by simp)
        have g04 := g03.trans g4
        clear hl3 hx3 hd3 hw3 g03 g4 hc3 ht3
        generalize rdE ps i st e = e0 at *
        walk_at "w"
        refine WK.w_genS (t := tIfS _ _ _) (fun σ' H' => ∃ z', σ' = [some (.ref a), some (.ref t), some (.ref L), some (.ref wa), some (.ref d), some (.int (i : Nat)), some (.ref c), some (.ref z')] ∧ Gr [] H4 H' ∧ H' z' = some (.tup (stE st e0).vs)) ?_ (fun D' _ _ _ h0 => ?_)
        rotate_left
        · walk_at "i"
          walk_at "i"
          refine WK.w_ixT hz4 e0.at0 ?_
          walk_at "w"
          have nr : ∀ x ∈ (["put", "drop", "join", "save", "load", "wait"] : List Str), ¬ x = "read" := by decide +kernel
          have same : ∀ H', Gr [] H4 H' → stE st e0 = e0 → ∃ z', ([some (V.ref a), some (.ref t), some (.ref L), some (.ref wa), some (.ref d), some (.int (i : Nat)), some (.ref c), some (.ref z)] : L2.St) = [some (.ref a), some (.ref t), some (.ref L), some (.ref wa), some (.ref d), some (.int (i : Nat)), some (.ref c), some (.ref z')] ∧ Gr [] H4 H' ∧ H' z' = some (.tup (stE st e0).vs) :=
            fun H' g e => ⟨z, rfl, g, by rw [e]; exact g.tup _ _ hz4⟩
          cases e0 with
          | read r u =>
            obtain ⟨y, hy, hu⟩ := rr rfl
            dsimp only [Ev.word]
            refine WK.w_2 (fun _ => ?_) (fun no => (no rfl).elim)
            walk_at "w"
            refine ⟨_, _, rfl, hw4.g_seats, ?_⟩
            walk_at "w"
            have hg := hw4.g_seat r
            rw [hy] at hg
            refine ⟨_, _, rfl, hg, ?_⟩
            walk_at "w"
            refine WK.w_2 (fun h1 => ?_) (fun h1 => ?_)
            · walk_at "w"
              refine ⟨WK.sz, fun z2 nz2 => ?_⟩
              refine h0 _ _ ⟨z2, rfl, Gr.new nz2, ?_⟩
              rw [st_read hy hu, if_pos h1]
              exact upd_same
            · exact h0 _ _ (same _ (Gr.refl _ _) (by rw [st_read hy hu, if_neg h1]))
          | _ =>
            dsimp only [Ev.word]
            refine WK.w_2 (fun y => (nr _ (by simp) y).elim) (fun _ => ?_)
            refine WK.w_ifN (by decide) ?_
            exact h0 _ _ (same _ (Gr.refl _ _) rfl)
        · rintro _ H5 ⟨z', rfl, g5, hz5⟩
          have hl5 := g5.k0 hl4
          have hx5 := hx4.gr g5
          have hd5 := g5.k0 hd4
          have hw5 := hw4.keep g5 (by simp) (by simp) (by simp)
          have g05 := g04.trans g5
          clear hl4 hx4 hd4 hw4 g04 hz4 g5
          generalize stE st e0 = e1 at *
          walk_at "w"
          refine use_moved hw5 (by omega) ⟨z', rfl, hz5⟩ ft fun H6 g6 hw6 => ?_
          have hl6 := g6.keep _ _ (by simp [Lw, Ls, Lc]) hl5
          have hd6 := g6.keep _ _ (by simp [dw.symm, ds.symm, dc.symm]) hd5
          have hx6 := hx5.gr g6
          have g06 : Gr [] H H6 := g05.sub (L := [wa, sd, cl]) g6 (by simp [nwH, nsH, ncH])
          have hz6 := g6.tup _ _ hz5
          walk_at "w"
          refine WK.w_tyL hl6 ?_
          walk_at "w"
          refine ⟨L, xs, _, rfl, rfl, hl6, WK.sz' (by omega), ?_⟩
          have g7 : Gr [L] H6 (upd H6 L (.lst (xs ++ [.ref z']))) := Gr.mutL hl6 (by simp)
          refine ⟨_, _, _, _, rfl, g06.own g7 nL, upd_same, ?_, ?_, ?_⟩
          · exact pr_append (hx6.gr g7) (.cons ⟨z', rfl, g7.tup _ _ hz6⟩ .nil)
          · rw [run_snoc, hst]
            exact hw6.keep g7 (by simp [Lw.symm]) (by simp [Ls.symm]) (by simp [Lc.symm])
          · exact g7.k1 hd6 dL.symm
    · rintro _ H2 ⟨xs, y5, y6, y7, rfl, g2, hl2, hx2, hw2, hd2⟩
      rw [hev.length] at hx2
      have xl : xs.length ≤ 100 := by
        rw [hx2.length, (wd_ok va kok ro es.length (Nat.le_refl _)).l]
        exact len
      walk_at "w"
      refine ⟨L, xs, rfl, .inl ⟨SqL.of hl2, fun p np => ?_⟩⟩
      have g3 : Gr [] H2 (upd H2 p (.tup xs)) := Gr.new np
      exact q _ _ (g2.trans g3) ⟨p, xs, rfl, upd_same, hx2.gr g3⟩

end
end PK
namespace PK
open PySem L2
section
variable {P : Program} {w : World} {K : PySem.W.Frag} {mg : Str → Option Value} {base : Heap}
abbrev s_with_reads : Stmt := topS 3
abbrev N_with_reads : List Str := ["timetable", "reads", "added", "walk", "events", "time", "event", "wanted", "done", "reader"]
abbrev ps_with_reads : List Str := ["timetable", "reads"]
theorem sc_with_reads : FnScope N_with_reads ps_with_reads (defScope s_with_reads) := ⟨rfl, rfl, rfl, by decide +kernel, rfl, by decide +kernel, by decide +kernel⟩
def PrQ (K : PySem.W.Frag) (H : Hp) (v : V) (bs : List (Int × Int)) : Prop := ∃ a xs, v = .ref a ∧ Sq K H a xs ∧ Paired (fun x (b : Int × Int) => ∃ c, x = .ref c ∧ Sq K H c [.int b.1, .int b.2]) xs bs
theorem PrQ.gr {H H' : Hp} {v : V} {bs : List (Int × Int)} (h : PrQ K H v bs) (g : Gr [] H H') : PrQ K H' v bs := by
  obtain ⟨a, xs, e, q, p⟩ := h
  exact ⟨a, xs, e, q.gr g, Paired.mono (fun _ _ ⟨c, e, z⟩ => ⟨c, e, z.gr g⟩) p⟩
theorem put_take {ps : List (Int × Int)} {i : Nat} {p : Int × Int} (nd : (ps.map (·.1)).Nodup) (hp : ps[i]? = some p) : putA (ps.take i) p.1 p.2 = ps.take (i + 1) := by
  rw [take_snoc hp, putA_new]
  intro z
  have e : ps.take (i + 1) = ps.take i ++ [p] := take_snoc hp
  have s : ((ps.take (i + 1)).map (·.1)).Nodup := by
    rw [List.map_take]
    exact nd.sublist (List.take_sublist _ _)
  rw [e, List.map_append] at s
  exact (List.nodup_append.mp s).2.2 _ z _ (by simp) rfl
theorem WK.w_mk {C : Addr} {sp : Sp} {dvs : List V} {E : XK} {t : TA} {σ : L2.St} {H : Hp} {Q : VK} (k : t σ H fun vs H1 => ∀ x dx, H1 x = none → H1 dx = none → dx ≠ x → sp (.ref x :: (vs ++ dvs)) (upd (upd H1 dx (.own x)) x (.ins C dx [])) (fun v H2 => v = .non ∧ Q (.ref x) H2) E) : tMake C sp dvs E t σ H Q := k
theorem WK.w_meth {C : Addr} {m : Str} {sp : Sp} {dvs : List V} {E : XK} {t : TA} {σ : L2.St} {H : Hp} {Q : VK} {i : Nat} {p dx : Addr} {fs : List (Str × V)} (hi : σ[i]? = some (some (.ref p))) (ho : H p = some (.ins C dx fs)) (hf : fs.lookup m = none) (k : t σ H fun vs H2 => sp (.ref p :: (vs ++ dvs)) H2 Q E) : tMeth C m sp dvs E (tVar i) t σ H Q := ⟨_, hi, p, dx, fs, rfl, ho, hf, k⟩
/-- an event in a list, or in a tuple that stands -/
def RowR (K : PySem.W.Frag) (H : Hp) (v : V) (e : Ev) : Prop := ∃ c, v = .ref c ∧ (SqL K H c e.vs ∨ H c = some (.tup e.vs))
theorem RowR.gr {H H' : Hp} {v : V} {e : Ev} (h : RowR K H v e) (g : Gr [] H H') : RowR K H' v e := by
  obtain ⟨c, e, z⟩ := h
  exact ⟨c, e, z.imp (fun z => sqL_gr g (by simp) z) (fun z => g.tup _ _ z)⟩
def TbR (K : PySem.W.Frag) (H : Hp) (v : V) (es : List Ev) : Prop := ∃ a xs, v = .ref a ∧ Sq K H a xs ∧ Paired (RowR K H) xs es
theorem TbR.gr {H H' : Hp} {v : V} {es : List Ev} (h : TbR K H v es) (g : Gr [] H H') : TbR K H' v es := by
  obtain ⟨a, xs, e, q, p⟩ := h
  exact ⟨a, xs, e, q.gr g, Paired.mono (fun _ _ z => z.gr g) p⟩
theorem TbR.of_tt {H : Hp} {v : V} {es : List Ev} (h : IsTT H v es) : TbR K H v es := by
  obtain ⟨a, xs, e, q, p⟩ := h
  exact ⟨a, xs, e, .inr (SqT.of q), Paired.mono (fun _ _ ⟨c, e, z⟩ => ⟨c, e, .inr z⟩) p⟩
def spWr (K : PySem.W.Frag) : Sp := fun vs H Q _ => ∃ (v rv : V) (es : List Ev) (ps : List (Int × Int)), vs = [v, rv] ∧ TbR K H v es ∧ PrQ K H rv ps ∧ Valid .nil es ∧ (∀ e ∈ es, e.kok) ∧ RdOk es ps ∧ es.length ≤ 100 ∧ ps.length ≤ 1000 ∧
  ∀ (v' : V) (H' : Hp), Gr [] H H' → IsTT H' v' (wD ps es es.length) → Q v' H'
theorem ok_wr {C : Addr} {f : Addr} {fd : FuncData} (F : Fun K "with_reads" "with_reads" s_with_reads f fd) (T : Txt mg) (W : WkC K C) (I_Walk : HasI P w K mg base C 1 "Walk" ps_Walk___init__ (spInit C)) (G_Walk_fits : HasM P w K mg base C 1 "fits" ps_Walk_fits (spFits K C)) (G_Walk_step : HasM P w K mg base C 1 "step" ps_Walk_step (spStep K C)) :
    FnOk P w K mg base CX0 3 f fd ps_with_reads (spWr K) := by
  have CL_Walk := W.cl
  refine F.ok sc_with_reads (fun vs H Q E h => ?_) (fun cdv A outer s H vs Q E hr h => ?_)
  · obtain ⟨v, rv, es, ps, rfl, _⟩ := h
    rfl
  · obtain ⟨_, _, es, ps, rfl, ⟨a, ts, rfl, ha, hev⟩, ⟨ra, rs, rfl, hra, hrp⟩, va, kok, ro, len, pl, q⟩ := h
    refine ⟨_, (pss_cons (ps_setDc (i := 2) (own := [("time", 5), ("reader", 9)]) (g := (gSeq K 2 (gCons (gName 5) (gCons (gName 9) gNil))))  rfl sc_with_reads.nd rfl rfl (sw_trueD rfl rfl rfl (by decide +kernel)) (pi_seq (pv 1)) (blkOk_by (own := [("time", 5), ("reader", 9)]) (N := N_with_reads) (sc := defScope s_with_reads) (by decide +kernel)) (fun _ _ _ _ _ => (pg_seqK (K := K) rfl (pgs_cons (pg_name (i := 5) sc_with_reads.nd rfl (Or.inl rfl)) (pgs_cons (pg_name (i := 9) sc_with_reads.nd rfl (Or.inl rfl)) pgs_nil)))) (fun _ _ _ _ _ => pts_nil) (fun _ _ _ _ _ => (pv 5)) (fun _ _ _ _ _ => (pv 9)))
(pss_cons (ps_set (i := 3) sc_with_reads.nd rfl (Or.inl rfl) (pe_makeH I_Walk (hr.mono (by decide)) (by rfl)))
(pss_cons (ps_set (i := 4) sc_with_reads.nd rfl (Or.inl rfl) (pe_lst pa_nil))
(pss_cons (ps_for PassesOwn.never rfl (pi_enS (by rfl) T.m_enumerate (pa_cons (pv 0) pa_nil)) (pg_seq rfl (pgs_cons (pg_name (i := 5) sc_with_reads.nd rfl (Or.inl rfl)) (pgs_cons (pg_name (i := 6) sc_with_reads.nd rfl (Or.inl rfl)) pgs_nil)))
  (pss_cons (ps_set (i := 7) sc_with_reads.nd rfl (Or.inl rfl) (pe_ifExp (pt_cmp (pc_din (hu_of hr) (pv 5) (pv 2))) (pe_tup (pa_cons pe_str (pa_cons (pe_dget (hu_of hr) (pv 2) (pv 5) (fun _ _ => rfl)) (pa_cons (pe_fld (pv 3) rfl) pa_nil)))) (pe_callTy (call_tuple_ofK (K := K)) (by rfl) T.m_tuple (by decide +kernel) (pa_cons (pv 6) pa_nil))))
  (pss_cons (ps_set (i := 8) sc_with_reads.nd rfl (Or.inl rfl) (pe_ifExp (PW.pt (pw_and (pt_cmpR op_eq (pe_ix (ix_tupK (K := K)) (pv 7) pe_int (fun _ _ => rfl)) pe_str (nomark _)) (pw_and1 (pt_not (pt_val (pe_methH (pv 3) G_Walk_fits CL_Walk (hr.mono (by decide)) (pa_cons (pv 7) pa_nil))))))) (pe_tup (pa_cons pe_str pa_nil)) (pv 7)))
  (pss_cons (ps_expr (pe_methH (pv 3) G_Walk_step CL_Walk (hr.mono (by decide)) (pa_cons (pv 8) pa_nil)))
  (pss_one (ps_expr (pe_bm PySem.F.plainAttrs_list PySem.F.slot_list_append PySem.F.type_list_append mt_append (pv 4) (pa_cons (pv 8) pa_nil))))))))
(pss_one (ps_ret (pe_callTy (call_tuple_ofK (K := K)) (by rfl) T.m_tuple (by decide +kernel) (pa_cons (pv 4) pa_nil)))))))), ?_⟩
    walk_at "w"
    refine w_dc (w_seqv rfl hra (Gr.refl _ _) (fun J G hG wk => ?_))
    intro d nd
    have rl := hrp.length
    refine dc_go wk (fun i H' => Gr [] H H' ∧ H' d = some (.dK (seatsV (ps.take i)))) ⟨Gr.new nd, upd_same⟩ (fun i H' _ ⟨g, _⟩ => hG _ g) ?_ ?_
    · rintro i x H1 H2 hi ⟨g1, hd1⟩ ⟨rfl, ex⟩
      obtain ⟨p, hp, c, rfl, hc⟩ := pr_get hrp ex
      have il := (List.getElem?_eq_some_iff.mp hp).1
      refine w_gseq (hc.gr g1) rfl ?_
      walk_at "w"
      refine ⟨rfl, ?_⟩
      walk_at "w"
      refine WK.w_ifP rfl ?_
      walk_at "w"
      refine ⟨seatsV (ps.take i), .inl p.1, rfl, hd1, ?_, ?_, ?_⟩
      · show ((ps.take i).map _).length < sizeLine
        rw [List.length_map, List.length_take]
        exact Nat.lt_of_le_of_lt (Nat.min_le_right _ _) (Nat.lt_of_le_of_lt pl (by decide))
      · exact g1.own (Gr.mutD hd1 (by simp)) nd
      · rw [show putK (seatsV (ps.take i)) (.inl p.1) (.int p.2) = seatsV (putA (ps.take i) p.1 p.2) from put_map Sum.inl inl_inj V.int (ps.take i) p.1 p.2, put_take ro.nd hp]
        exact upd_same
    · rintro H1 ⟨g1, hd1⟩
      rw [rl, List.take_length] at hd1
      clear wk hG
      walk_at "w"
      refine WK.w_mk ?_
      walk_at "w"
      intro p dx np ndx hne
      have k1 : Gr [] H1 (upd (upd H1 dx (.own p)) p (.ins C dx [])) := (Gr.new ndx).trans (Gr.new (by rw [upd_ne hne.symm]; exact np))
      have hp1 : (upd (upd H1 dx (.own p)) p (.ins C dx [])) p = some (.ins C dx []) := upd_same
      generalize (upd (upd H1 dx (.own p)) p (.ins C dx [])) = Ha at *
      refine ⟨p, dx, rfl, hp1, fun sd cl Hb nsd ncl kb hw => ⟨rfl, ?_⟩⟩
      have g2 : Gr [] H1 Hb := k1.own kb np
      have hd2 := g2.k0 hd1
      have np0 := g1.live _ np
      have ns0 := g1.live _ (k1.live _ nsd)
      have nc0 := g1.live _ (k1.live _ ncl)
      have dp : p ≠ d := fun e => by rw [e, hd1] at np; cases np
      have dsd : sd ≠ d := fun e => by
        have z := k1.live _ nsd
        rw [e, hd1] at z
        cases z
      have dcl : cl ≠ d := fun e => by
        have z := k1.live _ ncl
        rw [e, hd1] at z
        cases z
      have g02 := g1.trans g2
      clear k1 kb hp1 hne ndx np nsd ncl g1 g2 hd1
      walk_at "w"
      refine ⟨WK.sz, fun L nL => ?_⟩
      have k2 : Gr [] Hb (upd Hb L (.lst [])) := Gr.new nL
      have hL : (upd Hb L (.lst [])) L = some (.lst []) := upd_same
      have hw3 := hw.keep k2 (by simp) (by simp) (by simp)
      have hd3 := k2.k0 hd2
      have dL : L ≠ d := fun e => by rw [e, hd2] at nL; cases nL
      have Lp : L ≠ p := fun e => by
        obtain ⟨_, ho⟩ := hw.ob
        rw [e, ho] at nL
        cases nL
      have Ls : L ≠ sd := fun e => by
        obtain ⟨_, _, hs, _⟩ := hw.s
        rw [e, hs] at nL
        cases nL
      have Lc : L ≠ cl := fun e => by
        rw [e, hw.c] at nL
        cases nL
      have nL0 := g02.live _ nL
      have g03 := g02.trans k2
      clear hw hd2 nL g02 k2
      generalize (upd Hb L (.lst [])) = Hc at *
      walk_at "w"
      refine w_enSv rfl ha g03 (fun J G hG wk => ?_)
      refine lp_it wk (fun i σ' H' => ∃ xs y5 y6 y7 y8, σ' = [some (.ref a), some (.ref ra), some (.ref d), some (.ref p), some (.ref L), y5, y6, y7, y8, none] ∧ Gr [] H H' ∧ H' L = some (.lst xs) ∧ Evs H' xs (wD ps es i) ∧ WkAt C H' p sd cl (WS.nil.run (wD ps es i)) i ∧ H' d = some (.dK (seatsV ps)))
        ⟨[], none, none, none, none, rfl, g03, hL, .nil, hw3, hd3⟩ (fun i σ' H' _ ⟨_, _, _, _, _, _, g, _⟩ => hG _ g) ?_ ?_
      · rintro i x _ H2 H3 hi ⟨xs, y5, y6, y7, y8, rfl, g2, hl2, hx2, hw2, hd2⟩ ⟨tt, p1, p2, rfl, nt, rfl, e1, e2⟩
        cases e1
        obtain ⟨e, he, hep⟩ := pr_get hev e2
        have il := (List.getElem?_eq_some_iff.mp he).1
        have wo := wd_ok va kok ro i (by omega)
        have ft := wd_fits va kok ro he
        have xl : xs.length ≤ 100 := by
          rw [hx2.length, wo.l]
          omega
        rw [wD_succ he]
        generalize hst : WS.nil.run (wD ps es i) = st at *
        have g3 : Gr [] H2 (upd H2 tt (.tup [.int (i : Nat), p2])) := Gr.new nt
        obtain ⟨c, rfl, hc3⟩ := hep.gr (g2.trans g3)
        have hl3 := g3.k0 hl2
        have hx3 := hx2.gr g3
        have hd3 := g3.k0 hd2
        have hw3 := hw2.keep g3 (by simp) (by simp) (by simp)
        have g03 := g2.trans g3
        have ht3 : (upd H2 tt (.tup [.int (i : Nat), .ref c])) tt = some (.tup [.int (i : Nat), .ref c]) := upd_same
        generalize (upd H2 tt (.tup [.int (i : Nat), .ref c])) = H3 at *
        clear g2 g3 hl2 hx2 hd2 hw2
        walk_at "w"
        refine w_gseq (.inr (SqT.of ht3)) rfl ?_
        walk_at "w"
        refine WK.w_gen (fun v' H' => Gr [] H3 H' ∧ IsEv H' v' (rdE ps i st e)) ?_ (fun Q0 h0 => ?_)
        rotate_left
        · walk_at "i"
          refine ⟨_, _, rfl, prs_get hd3 _, ?_⟩
          cases g : getA ps (i : Int) with
          | some r =>
            have er : rdE ps i st e = .read r st.many := by unfold rdE; rw [g]
            walk_at "w"
            refine WK.w_ifP rfl ?_
            walk_at "w"
            have q3 := prs_get hd3 (i : Int)
            rw [g] at q3
            refine ⟨_, _, rfl, q3, ?_⟩
            walk_at "w"
            refine hw3.total W rfl ?_
            walk_at "w"
            refine ⟨WK.sz, fun z nz => ?_⟩
            refine h0 _ _ ⟨Gr.new nz, z, rfl, ?_⟩
            rw [er]
            exact upd_same
          | none =>
            have er : rdE ps i st e = e := by unfold rdE; rw [g]
            walk_at "w"
            refine WK.w_ifN (by decide) ?_
            walk_at "w"
            rcases hc3 with z | z
            · exact ⟨c, _, rfl, .inl ⟨z, fun l nl => h0 _ _ ⟨Gr.new nl, l, rfl, by rw [er]; exact upd_same⟩⟩⟩
            · exact ⟨c, _, rfl, .inr ⟨SqT.of z, h0 _ _ ⟨Gr.refl _ _, c, rfl, by rw [er]; exact z⟩⟩⟩
        · rintro _ H4 ⟨g4, z, rfl, hz4⟩
          have hl4 := g4.k0 hl3
          have hx4 := hx3.gr g4
          have hd4 := g4.k0 hd3
          have hw4 := hw3.keep g4 (by simp) (by simp) (by simp)
          have g04 := g03.trans g4
          clear hl3 hx3 hd3 hw3 g03 g4 hc3 ht3
          generalize rdE ps i st e = e0 at *
          walk_at "w"
          refine WK.w_gen (fun v' H' => Gr [] H4 H' ∧ IsEv H' v' (stE st e0)) ?_ (fun Q0 h0 => ?_)
          rotate_left
          · walk_at "i"
            walk_at "i"
            refine WK.w_ixT hz4 e0.at0 ?_
            walk_at "w"
            have nr : ∀ x ∈ (["put", "drop", "join", "save", "load", "wait"] : List Str), ¬ x = "read" := by decide +kernel
            have same : stE st e0 = e0 → Q0 (.ref z) H4 := fun e => h0 _ _ ⟨Gr.refl _ _, z, rfl, by rw [e]; exact hz4⟩
            cases e0 with
            | read r u =>
              dsimp only [Ev.word]
              refine WK.w_2 (fun _ => ?_) (fun no => (no rfl).elim)
              walk_at "w"
              obtain ⟨dx, ho⟩ := id hw4.ob
              refine WK.w_meth rfl ho wF_none ?_
              walk_at "w"
              refine ⟨p, sd, cl, st, i, .non, .non, z, .read r u, rfl, hw4, by omega, SqT.of hz4, fun H5 g5 => ?_⟩
              have es' : stE st (.read r u) = if fitsB st (.read r u) = true then .read r u else .wait := rfl
              refine ⟨_, rfl, ?_⟩
              by_cases fb : fitsB st (.read r u) = true
              · rw [if_pos fb] at es'
                rw [fb]
                refine WK.w_ifN (by decide) ?_
                walk_at "w"
                exact h0 _ _ ⟨g5, z, rfl, by rw [es']; exact g5.tup _ _ hz4⟩
              · rw [if_neg fb] at es'
                rw [Bool.eq_false_iff.mpr fb]
                refine WK.w_ifP (by decide) ?_
                walk_at "w"
                refine ⟨WK.sz, fun y ny => ?_⟩
                exact h0 _ _ ⟨g5.trans (Gr.new ny), y, rfl, by rw [es']; exact upd_same⟩
            | _ =>
              dsimp only [Ev.word]
              refine WK.w_2 (fun y => (nr _ (by simp) y).elim) (fun _ => ?_)
              refine WK.w_ifN (by decide) ?_
              walk_at "w"
              exact same rfl
          · rintro _ H5 ⟨g5, z', rfl, hz5⟩
            have hl5 := g5.k0 hl4
            have hx5 := hx4.gr g5
            have hd5 := g5.k0 hd4
            have hw5 := hw4.keep g5 (by simp) (by simp) (by simp)
            have g05 := g04.trans g5
            clear hl4 hx4 hd4 hw4 g04 hz4 g5
            generalize stE st e0 = e1 at *
            walk_at "w"
            obtain ⟨dx, ho⟩ := id hw5.ob
            refine WK.w_meth rfl ho wF_none ?_
            walk_at "w"
            refine ⟨p, sd, cl, st, i, z', e1, rfl, hw5, by omega, SqT.of hz5, ft, fun H6 g6 hw6 => ?_⟩
            have hl6 := g6.keep _ _ (by simp [Lp, Ls, Lc]) hl5
            have hd6 := g6.keep _ _ (by simp [dp.symm, dsd.symm, dcl.symm]) hd5
            have hx6 := hx5.gr g6
            have g06 : Gr [] H H6 := g05.sub (L := [p, sd, cl]) g6 (by simp [np0, ns0, nc0])
            have hz6 := g6.tup _ _ hz5
            walk_at "w"
            refine WK.w_tyL hl6 ?_
            walk_at "w"
            refine ⟨L, xs, _, rfl, rfl, hl6, WK.sz' (by omega), ?_⟩
            have g7 : Gr [L] H6 (upd H6 L (.lst (xs ++ [.ref z']))) := Gr.mutL hl6 (by simp)
            refine ⟨_, _, _, _, _, rfl, g06.own g7 nL0, upd_same, ?_, ?_, ?_⟩
            · exact pr_append (hx6.gr g7) (.cons ⟨z', rfl, g7.tup _ _ hz6⟩ .nil)
            · rw [run_snoc, hst]
              exact hw6.keep g7 (by simp [Lp.symm]) (by simp [Ls.symm]) (by simp [Lc.symm])
            · exact g7.k1 hd6 dL.symm
      · rintro _ H2 ⟨xs, y5, y6, y7, y8, rfl, g2, hl2, hx2, hw2, hd2⟩
        rw [hev.length] at hx2
        have xl : xs.length ≤ 100 := by
          rw [hx2.length, (wd_ok va kok ro es.length (Nat.le_refl _)).l]
          exact len
        walk_at "w"
        refine ⟨L, xs, rfl, .inl ⟨SqL.of hl2, fun y ny => ?_⟩⟩
        have g3 : Gr [] H2 (upd H2 y (.tup xs)) := Gr.new ny
        exact q _ _ (g2.trans g3) ⟨y, xs, rfl, upd_same, hx2.gr g3⟩

end
end PK
namespace PK
open PySem L2
section
variable {P : Program} {w : World} {K : PySem.W.Frag} {mg : Str → Option Value} {base : Heap}
abbrev s_law_free : Stmt := topS 16
abbrev N_law_free : List Str := ["_law_table_here", "_law_found", "_law_w", "_law_spot", "_law_event_so"]
abbrev ps_law_free : List Str := ["_law_table_here"]
theorem sc_law_free : FnScope N_law_free ps_law_free (defScope s_law_free) := ⟨rfl, rfl, rfl, by decide +kernel, rfl, by decide +kernel, by decide +kernel⟩
/-- a wait's time, and who is there then: a new list -/
def IsFr (N : Addr → Prop) (H : Hp) (v : V) (row : Nat × List Int) : Prop := ∃ a b, v = .ref a ∧ N b ∧ H a = some (.tup [.int (row.1 : Nat), .ref b]) ∧ H b = some (.lst (row.2.map V.int))
theorem IsFr.gr {N : Addr → Prop} {H H' : Hp} {M : List Addr} {v : V} {row : Nat × List Int} (h : IsFr N H v row) (g : Gr M H H') (hM : ∀ a, N a → a ∉ M) : IsFr N H' v row := by
  obtain ⟨a, b, e, n, h1, h2⟩ := h
  exact ⟨a, b, e, n, g.tup _ _ h1, g.keep _ _ (hM _ n) h2⟩
structure FrOk (es : List Ev) (rows : List (Nat × List Int)) (i : Nat) : Prop where
  at_ : ∀ r ∈ rows, r.1 < i ∧ es[r.1]? = some .wait ∧ r.2.length ≤ 100 ∧ ∀ y ∈ r.2, ∃ z, (WS.nil.run (es.take r.1)).seats y = some z
  up : rows.Pairwise fun a b => a.1 < b.1
  len : rows.length ≤ i
def spFree : Sp := fun vs H Q _ => ∃ (v : V) (es : List Ev), vs = [v] ∧ IsTT H v es ∧ Valid .nil es ∧ es.length ≤ 60 ∧
  ∀ (l : Addr) (xs : List V) (rows : List (Nat × List Int)) (H' : Hp), Gr [] H H' → H l = none → H' l = some (.lst xs) → Paired (IsFr (fun b => H b = none) H') xs rows → FrOk es rows es.length → Q (.ref l) H'
theorem has_free (D : Df K mg "_law_free" s_law_free ps_law_free) (T : Txt mg) (G_law_start : Has P w K mg base 1 "_law_start" ps_law_start spStart) (G_law_moved : Has P w K mg base 1 "_law_moved" ps_law_moved spMoved) : Has P w K mg base 2 "_law_free" ps_law_free spFree := Has.mk' D fun f fd F => by
  refine F.ok sc_law_free (fun vs H Q E h => ?_) (fun cdv A outer s H vs Q E hr h => ?_)
  · obtain ⟨v, es, rfl, _⟩ := h
    rfl
  · obtain ⟨_, es, rfl, ⟨a, ts, rfl, ha, hev⟩, va, len, q⟩ := h
    refine ⟨_, (pss_cons (ps_par (i := 1) (j := 2) (by rfl) sc_law_free.nd rfl rfl (by decide) rfl rfl (pa_cons (pe_lst pa_nil) (pa_cons (pe_call0H G_law_start (hr.mono (by decide)) (by rfl)) pa_nil)) (by rfl))
(pss_cons (ps_for PassesOwn.never rfl (pi_enT (by rfl) T.m_enumerate (pa_cons (pv 0) pa_nil)) (pg_tup rfl (pgs_cons (pg_name (i := 3) sc_law_free.nd rfl (Or.inl rfl)) (pgs_cons (pg_name (i := 4) sc_law_free.nd rfl (Or.inl rfl)) pgs_nil)))
  (pss_cons (ps_if (pt_cmpR op_eq (pe_ix (ix_tupK (K := K)) (pv 4) pe_int (fun _ _ => rfl)) pe_str (nomark _))
    (pss_one (ps_expr (pe_bm PySem.F.plainAttrs_list PySem.F.slot_list_append PySem.F.type_list_append mt_append (pv 1) (pa_cons (pe_tup (pa_cons (pv 3) (pa_cons (pe_callB (call_sortedDI rfl) (by rfl) T.m_sorted (by decide +kernel) (pa_cons (pe_dget (hu_of hr) (pv 2) pe_str (fun _ _ => rfl)) pa_nil)) pa_nil))) pa_nil))))
    pss_nil)
  (pss_one (ps_expr (pe_callH G_law_moved (hr.mono (by decide)) (by rfl) (pa_cons (pv 2) (pa_cons (pv 4) pa_nil)))))))
(pss_one (ps_ret (pv 1))))), ?_⟩
    walk_at "w"
    refine ⟨WK.sz, fun L nL => ?_⟩
    walk_at "w"
    have g0 : Gr [] H (upd H L (.lst [])) := Gr.new nL
    have l0 : (upd H L (.lst [])) L = some (.lst []) := upd_same
    generalize (upd H L (.lst [])) = H0 at *
    refine ⟨rfl, fun wa sd cl H1 nw ns nc g1 hw => ?_⟩
    have l1 := g1.k0 l0
    have Lw : L ≠ wa := ne_of_none l0 nw
    have Ls : L ≠ sd := ne_of_none l0 ns
    have Lc : L ≠ cl := ne_of_none l0 nc
    have g01 := g0.trans g1
    have nwH := g0.live _ nw
    have nsH := g0.live _ ns
    have ncH := g0.live _ nc
    clear l0 g0 g1 nw ns nc
    walk_at "w"
    refine ⟨a, ts, rfl, SqT.of (g01.tup _ _ ha), ?_⟩
    refine lp_it (walk_enT (xs := ts)) (fun i σ' H' => ∃ xs rows y3 y4, σ' = [some (.ref a), some (.ref L), some (.ref wa), y3, y4] ∧ Gr [] H H' ∧ H' L = some (.lst xs) ∧ Paired (IsFr (fun b => H b = none ∧ b ≠ L ∧ b ≠ wa ∧ b ≠ sd ∧ b ≠ cl) H') xs rows ∧ FrOk es rows i ∧ WAt H' wa sd cl (WS.nil.run (es.take i)) i)
      ⟨[], [], none, none, rfl, g01, l1, .nil, ⟨by simp, .nil, Nat.le_refl _⟩, hw⟩ (fun i σ' H' _ ⟨_, _, _, _, _, g, _⟩ => SqT.of (g.tup _ _ ha)) ?_ ?_
    · rintro i x _ H2 H3 hi ⟨xs, rows, y3, y4, rfl, g2, hl2, hx2, fo, hw2⟩ ⟨tt, p1, p2, rfl, nt, rfl, e1, e2⟩
      cases e1
      obtain ⟨e, he, ⟨c, rfl, hc⟩⟩ := pr_get hev e2
      have il := (List.getElem?_eq_some_iff.mp he).1
      have ft := valid_take va i he
      have xl : xs.length ≤ 100 := by
        have := fo.len
        rw [hx2.length]
        omega
      rw [take_snoc he, run_snoc]
      generalize hst : WS.nil.run (es.take i) = st at *
      have g3 : Gr [] H2 (upd H2 tt (.tup [.int (i : Nat), .ref c])) := Gr.new nt
      have hc3 := g3.tup _ _ (g2.tup _ _ hc)
      have hl3 := g3.k0 hl2
      have hx3 : Paired (IsFr (fun b => H b = none ∧ b ≠ L ∧ b ≠ wa ∧ b ≠ sd ∧ b ≠ cl) _) xs rows := Paired.mono (fun _ _ z => z.gr g3 (by simp)) hx2
      have hw3 := hw2.keep g3 (by simp) (by simp) (by simp)
      have g03 := g2.trans g3
      have ht3 : (upd H2 tt (.tup [.int (i : Nat), .ref c])) tt = some (.tup [.int (i : Nat), .ref c]) := upd_same
      generalize (upd H2 tt (.tup [.int (i : Nat), .ref c])) = H3 at *
      clear g2 g3 hl2 hx2 hw2 hc
      walk_at "w"
      refine WK.w_genS (t := tIfS _ _ _) (fun σ' H' => ∃ xs rows, σ' = [some (.ref a), some (.ref L), some (.ref wa), some (.int (i : Nat)), some (.ref c)] ∧ Gr [] H H' ∧ H' L = some (.lst xs) ∧ Paired (IsFr (fun b => H b = none ∧ b ≠ L ∧ b ≠ wa ∧ b ≠ sd ∧ b ≠ cl) H') xs rows ∧ FrOk es rows (i + 1) ∧ WAt H' wa sd cl st i ∧ H' c = some (.tup e.vs)) ?_ (fun D' _ _ _ h0 => ?_)
      rotate_left
      · walk_at "i"
        refine WK.w_ixT hc3 e.at0 ?_
        walk_at "w"
        have nw : ∀ x ∈ (["put", "drop", "join", "save", "load", "read"] : List Str), ¬ x = "wait" := by decide +kernel
        have fo' : FrOk es rows (i + 1) := ⟨fun r hr => ⟨Nat.lt_succ_of_lt (fo.at_ r hr).1, (fo.at_ r hr).2⟩, fo.up, Nat.le_succ_of_le fo.len⟩
        cases e with
        | wait =>
          dsimp only [Ev.word]
          refine WK.w_2 (fun _ => ?_) (fun no => (no rfl).elim)
          walk_at "w"
          refine WK.w_tyL hl3 ?_
          walk_at "w"
          refine ⟨_, _, rfl, hw3.g_seats, ?_⟩
          walk_at "w"
          obtain ⟨kvs, ks, hs, k1, k2, k3, k4, k5⟩ := hw3.s
          refine ⟨sd, kvs, ks, rfl, .inl hs, k1, by omega, fun ys l hp hsort nl => ?_⟩
          have g4 : Gr [] H3 (upd H3 l (.lst (ys.map V.int))) := Gr.new nl
          have hl4 : (upd H3 l (.lst (ys.map V.int))) l = some (.lst (ys.map V.int)) := upd_same
          have lL : l ≠ L := fun e => by rw [e, hl3] at nl; cases nl
          have lw : l ≠ wa := fun e => by rw [e, hw3.w] at nl; cases nl
          have ls : l ≠ sd := fun e => by rw [e, hs] at nl; cases nl
          have lc : l ≠ cl := fun e => by rw [e, hw3.c] at nl; cases nl
          have nlH := g03.live _ nl
          have hL4 := g4.k0 hl3
          have hx4 : Paired (IsFr (fun b => H b = none ∧ b ≠ L ∧ b ≠ wa ∧ b ≠ sd ∧ b ≠ cl) _) xs rows := Paired.mono (fun _ _ z => z.gr g4 (by simp)) hx3
          have hw4 := hw3.keep g4 (by simp) (by simp) (by simp)
          have g04 := g03.trans g4
          have hc4 := g4.tup _ _ hc3
          generalize (upd H3 l (.lst (ys.map V.int))) = H4 at *
          walk_at "w"
          refine ⟨WK.sz, fun z nz => ?_⟩
          have g5 : Gr [] H4 (upd H4 z (.tup [.int (i : Nat), .ref l])) := Gr.new nz
          have hz5 : (upd H4 z (.tup [.int (i : Nat), .ref l])) z = some (.tup [.int (i : Nat), .ref l]) := upd_same
          generalize (upd H4 z (.tup [.int (i : Nat), .ref l])) = H5 at *
          walk_at "w"
          refine ⟨L, xs, _, rfl, rfl, g5.k0 hL4, WK.sz' (by omega), ?_⟩
          have g6 : Gr [L] H5 (upd H5 L (.lst (xs ++ [.ref z]))) := Gr.mutL (g5.k0 hL4) (by simp)
          have hx5 : Paired (IsFr (fun b => H b = none ∧ b ≠ L ∧ b ≠ wa ∧ b ≠ sd ∧ b ≠ cl) (upd H5 L (.lst (xs ++ [.ref z])))) xs rows := Paired.mono (fun _ _ z => (z.gr g5 (by simp)).gr g6 (fun a na => by simp [na.2.1])) hx4
          refine h0 _ _ ⟨xs ++ [.ref z], rows ++ [(i, ys)], rfl, (g04.trans g5).own g6 nL, upd_same, ?_, ⟨?_, ?_, ?_⟩, ?_, g6.tup _ _ (g5.tup _ _ hc4)⟩
          · exact pr_append hx5 (.cons ⟨z, l, rfl, ⟨nlH, lL, lw, ls, lc⟩, g6.tup _ _ hz5, g6.k1 (g5.k0 hl4) lL⟩ .nil)
          · intro r hr
            rcases List.mem_append.mp hr with z | z
            · exact fo'.at_ r z
            · rw [List.mem_singleton.mp z]
              refine ⟨Nat.lt_succ_self _, he, ?_, fun y hy => ?_⟩
              · rw [show ys.length = ks.length from hp.length_eq]
                omega
              · rw [hst]
                exact Option.isSome_iff_exists.mp ((k4 y).mp (hp.mem_iff.mp hy))
          · refine List.pairwise_append.mpr ⟨fo.up, List.pairwise_singleton _ _, fun r hr x hx => ?_⟩
            rw [List.mem_singleton.mp hx]
            exact (fo.at_ r hr).1
          · rw [List.length_append, List.length_singleton]
            have := fo.len
            omega
          · exact (hw4.keep g5 (by simp) (by simp) (by simp)).keep g6 (by simp [Lw.symm]) (by simp [Ls.symm]) (by simp [Lc.symm])
        | _ =>
          dsimp only [Ev.word]
          refine WK.w_2 (fun y => (nw _ (by simp) y).elim) (fun _ => ?_)
          exact h0 _ _ ⟨xs, rows, rfl, g03, hl3, hx3, fo', hw3, hc3⟩
      · rintro _ H5 ⟨xs5, rows5, rfl, g5, hl5, hx5, fo5, hw5, hc5⟩
        walk_at "w"
        refine use_moved hw5 (by omega) ⟨c, rfl, hc5⟩ ft fun H6 g6 hw6 => ?_
        refine ⟨xs5, rows5, _, _, rfl, g5.sub (L := [wa, sd, cl]) g6 (by simp [nwH, nsH, ncH]), g6.keep _ _ (by simp [Lw, Ls, Lc]) hl5, Paired.mono (fun _ _ z => z.gr g6 (fun a na => by simp [na.2.2])) hx5, fo5, hw6⟩
    · rintro _ H2 ⟨xs, rows, y3, y4, rfl, g2, hl2, hx2, fo, hw2⟩
      rw [hev.length] at fo
      walk_at "w"
      exact q L xs rows _ g2 nL hl2 (Paired.mono (fun _ _ ⟨a, b, e, n, z⟩ => ⟨a, b, e, n.1, z⟩) hx2) fo

end
end PK
namespace PK
open PySem L2
section
variable {P : Program} {w : World} {K : PySem.W.Frag} {mg : Str → Option Value} {base : Heap}
abbrev s_law_waited : Stmt := topS 17
abbrev N_law_waited : List Str := ["_law_box_here", "_law_many", "_law_most", "_law_folk", "_law_table_here", "_law_found", "_law_event_so", "_law_one_so"]
abbrev ps_law_waited : List Str := ["_law_box_here", "_law_many", "_law_most", "_law_folk"]
theorem sc_law_waited : FnScope N_law_waited ps_law_waited (defScope s_law_waited) := ⟨rfl, rfl, rfl, by decide +kernel, rfl, by decide +kernel, by decide +kernel⟩
def spWaited : Sp := fun vs H Q _ => ∃ (b : Addr) (m k : Nat) (folk : Int), vs = [.ref b, .int k, .int 4, .int folk] ∧ Bx H b (m + 5 * k + 1) ∧ k ≤ 30 ∧ 1 ≤ folk ∧ folk ≤ 4 ∧
  ∀ (v : V) (H' : Hp) (es : List Ev), Gr [b] H H' → Bx H' b m → IsTT H' v es → Valid .nil es → (∀ e ∈ es, e.ok) → es.length ≤ 60 → Q v H'
structure Fewer (es : List Ev) (fs : List Ev) (i : Nat) : Prop where
  v : Valid .nil fs
  r : WS.nil.run fs = WS.nil.run (es.take i)
  o : ∀ e ∈ fs, e.ok
  l : fs.length ≤ i
theorem Fewer.add {es fs : List Ev} {i : Nat} {e : Ev} (h : Fewer es fs i) (he : es[i]? = some e) (va : Valid .nil es) (ho : e.ok) : Fewer es (fs ++ [e]) (i + 1) := by
  refine ⟨valid_append.mpr ⟨h.v, ?_, trivial⟩, by rw [run_snoc, take_snoc he, run_snoc, h.r], fun d hd => ?_, by rw [List.length_append, List.length_singleton]; exact Nat.succ_le_succ h.l⟩
  · rw [h.r]
    exact valid_take va i he
  · rcases List.mem_append.mp hd with z | z
    · exact h.o d z
    · rw [List.mem_singleton.mp z]
      exact ho
theorem Fewer.not {es fs : List Ev} {i : Nat} (h : Fewer es fs i) (he : es[i]? = some .wait) : Fewer es fs (i + 1) :=
  ⟨h.v, by rw [h.r, take_snoc he, run_snoc]; rfl, h.o, Nat.le_succ_of_le h.l⟩
theorem has_waited (D : Df K mg "_law_waited" s_law_waited ps_law_waited) (T : Txt mg) (G_law_take : Has P w K mg base 1 "_law_take" ps_law_take spTake) (G_law_table : Has P w K mg base 4 "_law_table" ps_law_table spTable) (G_law_ended : Has P w K mg base 2 "_law_ended" ps_law_ended spEnded) :
    Has P w K mg base 5 "_law_waited" ps_law_waited spWaited := Has.mk' D fun f fd F => by
  refine F.ok sc_law_waited (fun vs H Q E h => ?_) (fun cdv A outer s H vs Q E hr h => ?_)
  · obtain ⟨b, m, k, folk, rfl, _⟩ := h
    rfl
  · obtain ⟨b, m, k, folk, rfl, hb, k30, f1, f4, q⟩ := h
    refine ⟨_, (pss_cons (ps_par (i := 4) (j := 5) (by rfl) sc_law_waited.nd rfl rfl (by decide) rfl rfl (pa_cons (pe_callH G_law_table (hr.mono (by decide)) (by rfl) (pa_cons (pv 0) (pa_cons (pv 1) (pa_cons pe_int (pa_cons (pv 3) (pa_cons (pe_lst (pa_cons pe_str (pa_cons pe_str pa_nil))) (pa_cons pe_str pa_nil))))))) (pa_cons (pe_lst pa_nil) pa_nil)) (by rfl))
(pss_cons (ps_for PassesOwn.never rfl (pi_tup (pv 4)) (pg_name (i := 6) sc_law_waited.nd rfl (Or.inl rfl))
  (pss_one (ps_if (PW.pt (pw_or (pt_cmpR op_ne (pe_ix (ix_tupK (K := K)) (pv 6) pe_int (fun _ _ => rfl)) pe_str (nomark _)) (pw_or1 (pt_cmpR op_lt (pe_callB (call_len_seqK (K := K)) (by rfl) T.m_len (by decide +kernel) (pa_cons (pe_lc (own := [("_law_one_so", 7)]) (g := gName 7)  rfl sc_law_waited.nd (pi_list (pv 5)) (blkOk_by (own := [("_law_one_so", 7)]) (N := N_law_waited) (sc := defScope s_law_waited) (by decide +kernel)) (fun _ _ _ _ _ => pg_name (i := 7) sc_law_waited.nd rfl (Or.inl rfl)) (fun _ _ _ _ _ => pts_one (pt_cmpR op_eq (pe_ix (ix_tupK (K := K)) (pv 7) pe_int (fun _ _ => rfl)) pe_str (nomark _))) (fun _ _ _ _ _ => (pv 7))) pa_nil)) (pv 2) (nomark _)))))
    (pss_one (ps_expr (pe_bm PySem.F.plainAttrs_list PySem.F.slot_list_append PySem.F.type_list_append mt_append (pv 5) (pa_cons (pv 6) pa_nil))))
    pss_nil)))
(pss_one (ps_ret (pe_ifExp (pt_cmpR op_eq (pe_callH G_law_take (hr.mono (by decide)) (by rfl) (pa_cons (pv 0) (pa_cons pe_int pa_nil))) pe_int (nomark _)) (pe_callH G_law_ended (hr.mono (by decide)) (by rfl) (pa_cons (pe_callTy (call_tuple_ofK (K := K)) (by rfl) T.m_tuple (by decide +kernel) (pa_cons (pv 5) pa_nil)) pa_nil)) (pe_callTy (call_tuple_ofK (K := K)) (by rfl) T.m_tuple (by decide +kernel) (pa_cons (pv 5) pa_nil))))))), ?_⟩
    walk_at "w"
    refine ⟨WK.sz, fun nl nnl => ?_⟩
    have g0 : Gr [] H (upd H nl (.lst [.str "a", .str "b"])) := Gr.new nnl
    have hnl : (upd H nl (.lst [.str "a", .str "b"])) nl = some (.lst [.str "a", .str "b"]) := upd_same
    have nb : nl ≠ b := fun e => by
      obtain ⟨_, z⟩ := hb.lst
      rw [← e, nnl] at z
      cases z
    have hb0 := hb.keep g0 (by simp)
    generalize (upd H nl (.lst [.str "a", .str "b"])) = H0 at *
    walk_at "w"
    refine ⟨b, nl, m + 1, k, 4, folk, ["a", "b"], "pppdddrrrrwwwwsl", rfl, hb0.mono (by omega), by omega, f1, f4, hnl, nb, by simp, by simp, ?_, by decide +kernel, by decide +kernel, ?_⟩
    · intro x hx
      simp only [List.mem_cons, List.not_mem_nil, or_false] at hx
      rcases hx with rfl | rfl
      · exact .inl rfl
      · exact .inr (.inl rfl)
    intro v H1 es g1 hb1 tt va ok ln
    obtain ⟨a, ts, rfl, ha, hev⟩ := tt
    have g01 := (g0.mono (by simp)).trans g1
    walk_at "w"
    refine ⟨WK.sz, fun L nL => ?_⟩
    have g2 : Gr [] H1 (upd H1 L (.lst [])) := Gr.new nL
    have l2 : (upd H1 L (.lst [])) L = some (.lst []) := upd_same
    have hb2 := hb1.keep g2 (by simp)
    have Lb : L ≠ b := fun e => by
      obtain ⟨_, z⟩ := hb1.lst
      rw [← e, nL] at z
      cases z
    clear hnl nb hb0 hb nnl
    have ha2 := g2.tup _ _ ha
    generalize (upd H1 L (.lst [])) = H2 at *
    walk_at "w"
    refine ⟨⟨ts, SqT.of ha2⟩, lp_tup (xs := ts) (fun i σ' H' => ∃ xs fs y6, σ' = [some (.ref b), some (.int k), some (.int 4), some (.int folk), some (.ref a), some (.ref L), y6, none] ∧ Gr [] H1 H' ∧ H' L = some (.lst xs) ∧ Evs H' xs fs ∧ Fewer es fs i)
      ⟨[], [], _, rfl, g2, l2, .nil, ⟨trivial, rfl, by simp, Nat.le_refl _⟩⟩ (fun i σ' H' _ ⟨_, _, _, _, g, _⟩ => SqT.of (g.tup _ _ ha)) ?_ ?_⟩
    · rintro i x _ H3 hx ⟨xs, fs, y6, rfl, g3, hl3, hx3, fw⟩
      obtain ⟨e, he, ⟨c, rfl, hc⟩⟩ := pr_get hev hx
      have il := (List.getElem?_eq_some_iff.mp he).1
      have hc3 := g3.tup _ _ hc
      have xl : xs.length ≤ 60 := by
        have := fw.l
        rw [hx3.length]
        omega
      walk_at "w"
      walk_at "i"
      have add : ∀ H', Gr [] H3 H' → ∃ ys fs' y6, ([some (.ref b), some (.int k), some (.int 4), some (.int folk), some (.ref a), some (.ref L), some (.ref c), none] : L2.St) = [some (.ref b), some (.int k), some (.int 4), some (.int folk), some (.ref a), some (.ref L), y6, none] ∧
          Gr [] H1 (upd H' L (.lst (xs ++ [.ref c]))) ∧ (upd H' L (.lst (xs ++ [.ref c]))) L = some (.lst ys) ∧ Evs (upd H' L (.lst (xs ++ [.ref c]))) ys fs' ∧ Fewer es fs' (i + 1) := fun H' g => by
        have gm : Gr [L] H' (upd H' L (.lst (xs ++ [.ref c]))) := Gr.mutL (g.k0 hl3) (by simp)
        exact ⟨xs ++ [.ref c], fs ++ [e], _, rfl, (g3.trans g).own gm nL, upd_same, pr_append ((hx3.gr g).gr gm) (.cons ⟨c, rfl, gm.tup _ _ (g.tup _ _ hc3)⟩ .nil), fw.add he va (ok e (List.mem_of_getElem? he))⟩
      refine WK.w_genT (fun t H' => Gr [] H3 H' ∧ (t = false → e = .wait)) ?_ (fun R0 h0 => ?_)
      rotate_left
      · walk_at "i"
        refine WK.w_ixT hc3 e.at0 ?_
        walk_at "w"
        refine WK.w_2n (fun h => ?_) (fun h => ?_)
        · exact h0 _ _ ⟨Gr.refl _ _, fun z => by cases z⟩
        · have ew : e = .wait := by
            have nw : ∀ x ∈ (["put", "drop", "join", "save", "load", "read"] : List Str), ¬ x = "wait" := by decide +kernel
            cases e with
            | wait => rfl
            | _ => exact (nw _ (by simp [Ev.word]) h).elim
          walk_at "w"
          refine ⟨⟨xs, SqL.of hl3⟩, ?_⟩
          refine lc_go (walk_list (K := K) (a := L) (xs := xs)) (fun D j acc H' => Gr [] H3 H') (fun D nD => Gr.new nD) (fun D j acc H' _ g => SqL.of (g.k0 hl3)) ?_ ?_
          · rintro D j acc x H4 H5 nD hj hD la g4 ⟨rfl, ex⟩
            obtain ⟨e', he', ⟨c', rfl, hc'⟩⟩ := pr_get hx3 ex
            have hc4 := g4.tup _ _ hc'
            walk_at "w"
            refine ⟨rfl, ?_⟩
            walk_at "w"
            refine WK.w_ixT hc4 e'.at0 ?_
            walk_at "w"
            refine ite2 (fun _ => ?_) (fun _ => lc_no hD la g4)
            walk_at "w"
            exact lc_yes hD la (by omega) (g4.own (Gr.mutL hD (by simp)) nD)
          · rintro D acc H4 nD hD la g4
            walk_at "w"
            exact h0 _ _ ⟨g4, fun _ => ew⟩
      · rintro t H4 ⟨g4, ew⟩
        cases t with
        | true =>
          refine WK.w_ifP rfl ?_
          walk_at "w"
          refine WK.w_tyL (g4.k0 hl3) ?_
          walk_at "w"
          refine ⟨L, xs, _, rfl, rfl, g4.k0 hl3, WK.sz' (by omega), ?_⟩
          obtain ⟨ys, fs', y, e1, e2, e3, e4, e5⟩ := add _ g4
          exact ⟨ys, fs', y, e1, e2, e3, e4, e5⟩
        | false =>
          refine WK.w_ifN (by decide) ?_
          have ew := ew rfl
          subst ew
          exact ⟨xs, fs, _, rfl, g3.trans g4, g4.k0 hl3, hx3.gr g4, fw.not he⟩
    · rintro _ H3 ⟨xs, fs, y6, rfl, g3, hl3, hx3, fw⟩
      have tl : ts.length = es.length := hev.length
      have xl : xs.length ≤ 30 := by
        have := fw.l
        rw [hx3.length]
        omega
      have fl : fs.length ≤ 30 := by rw [← hx3.length]; exact xl
      have hb3 := hb1.keep g3 (by simp)
      have g03 := g01.trans (g3.mono (by simp))
      walk_at "w"
      walk_at "i"
      refine use_take (n := m) hb3 (by omega) (by omega) (fun r H4 r0 r2 g4 hb4 => ?_)
      have hl4 := g4.k1 hl3 Lb
      have hx4 := hx3.gr g4
      walk_at "w"
      refine WK.w_2 (fun h => ?_) (fun h => ?_)
      · walk_at "w"
        refine ⟨L, xs, rfl, .inl ⟨SqL.of hl4, fun p np => ?_⟩⟩
        have g5 : Gr [] H4 (upd H4 p (.tup xs)) := Gr.new np
        refine use_ended (E := E0) ⟨p, xs, rfl, upd_same, hx4.gr g5⟩ fw.v fw.o (by omega) fun v' H6 es' g6 tt' va' ok' ln' => ?_
        exact q _ _ _ ((g03.trans g4).trans ((g5.trans g6).mono (by simp))) (hb4.keep (g5.trans g6) (by simp)) tt' va' ok' (by omega)
      · walk_at "w"
        refine ⟨L, xs, rfl, .inl ⟨SqL.of hl4, fun p np => ?_⟩⟩
        have g5 : Gr [] H4 (upd H4 p (.tup xs)) := Gr.new np
        exact q _ _ _ ((g03.trans g4).trans (g5.mono (by simp))) (hb4.keep g5 (by simp)) ⟨p, xs, rfl, upd_same, hx4.gr g5⟩ fw.v fw.o (by omega)

end
end PK
namespace PK
open PySem L2
section
variable {P : Program} {w : World} {K : PySem.W.Frag} {mg : Str → Option Value} {base : Heap}
/-! somebody lags: the events -/
def laps (k : Nat) : List Ev := List.replicate k .wait
theorem laps_run (s : WS) : ∀ k, s.run (laps k) = s
  | 0 => rfl
  | k + 1 => laps_run s k
theorem laps_valid (s : WS) : ∀ k, Valid s (laps k)
  | 0 => trivial
  | k + 1 => ⟨trivial, laps_valid s k⟩
def lagP (u : Int) : List Ev := [.join 0, .put "a" u, .read 0 1]
def lagM (k1 k2 : Nat) : List Ev := laps k1 ++ [.drop "a"] ++ laps k2
def lag0 (u : Int) (k1 k2 : Nat) : List Ev := lagP u ++ lagM k1 k2
def lag1 (u : Int) (k1 k2 : Nat) : List Ev := lag0 u k1 k2 ++ [.put "b" 1, .read 0 3]
def lag2 (u : Int) (k1 k2 : Nat) : List Ev := lagP u ++ [.save 0] ++ lagM k1 k2 ++ [.load 1 0, .read 0 2, .read 1 2]
theorem lagP_valid (u : Int) : Valid .nil (lagP u) := ⟨trivial, trivial, ⟨0, rfl, by decide, by show (1 : Int) ≤ 0 + 1; decide⟩, trivial⟩
theorem lagM_run (s : WS) (k1 k2 : Nat) : s.run (lagM k1 k2) = s.step (.drop "a") := by
  unfold lagM
  rw [run_append, run_append, laps_run, laps_run]
  rfl
theorem lagM_valid (s : WS) (k1 k2 : Nat) : Valid s (lagM k1 k2) := by
  unfold lagM
  exact valid_append.mpr ⟨valid_append.mpr ⟨laps_valid _ _, trivial, trivial⟩, laps_valid _ _⟩
theorem lag1_valid (u : Int) (k1 k2 : Nat) : Valid .nil (lag1 u k1 k2) := by
  refine valid_append.mpr ⟨valid_append.mpr ⟨lagP_valid u, lagM_valid _ _ _⟩, ?_⟩
  unfold lag0
  rw [run_append, lagM_run]
  exact ⟨trivial, ⟨1, rfl, by decide, by show (3 : Int) ≤ 0 + 1 + 1 + 1; decide⟩, trivial⟩
theorem lag2_valid (u : Int) (k1 k2 : Nat) : Valid .nil (lag2 u k1 k2) := by
  refine valid_append.mpr ⟨valid_append.mpr ⟨valid_append.mpr ⟨lagP_valid u, ⟨1, rfl⟩, trivial⟩, lagM_valid _ _ _⟩, ?_⟩
  rw [run_append, lagM_run, run_append]
  exact ⟨⟨by decide, by show (0 : Int) < ((1 : Nat) : Int); decide⟩, ⟨1, rfl, by decide, by show (2 : Int) ≤ 0 + 1 + 1; decide⟩, ⟨1, rfl, by decide, by show (2 : Int) ≤ 0 + 1 + 1; decide⟩, trivial⟩
theorem laps_ok {k : Nat} : ∀ e ∈ laps k, e.ok := fun e he => by
  rw [List.eq_of_mem_replicate he]
  trivial
theorem lagM_ok {k1 k2 : Nat} : ∀ e ∈ lagM k1 k2, e.ok := fun e he => by
  rcases List.mem_append.mp he with z | z
  · rcases List.mem_append.mp z with z | z
    · exact laps_ok e z
    · rw [List.mem_singleton.mp z]
      exact .inl rfl
  · exact laps_ok e z
theorem lagP_ok {u : Int} (h0 : 0 ≤ u) (h9 : u < 9) : ∀ e ∈ lagP u, e.ok := fun e he => by
  simp only [lagP, List.mem_cons, List.not_mem_nil, or_false] at he
  rcases he with rfl | rfl | rfl
  · exact ⟨by decide, by decide⟩
  · exact ⟨.inl rfl, h0, h9⟩
  · exact ⟨⟨by decide, by decide⟩, by decide⟩
theorem lag1_ok {u : Int} {k1 k2 : Nat} (h0 : 0 ≤ u) (h9 : u < 9) : ∀ e ∈ lag1 u k1 k2, e.ok := fun e he => by
  rcases List.mem_append.mp he with z | z
  · rcases List.mem_append.mp z with z | z
    · exact lagP_ok h0 h9 e z
    · exact lagM_ok e z
  · simp only [List.mem_cons, List.not_mem_nil, or_false] at z
    rcases z with rfl | rfl
    · exact ⟨.inr (.inl rfl), by decide, by decide⟩
    · exact ⟨⟨by decide, by decide⟩, by decide⟩
theorem lag2_ok {u : Int} {k1 k2 : Nat} (h0 : 0 ≤ u) (h9 : u < 9) : ∀ e ∈ lag2 u k1 k2, e.ok := fun e he => by
  rcases List.mem_append.mp he with z | z
  · rcases List.mem_append.mp z with z | z
    · rcases List.mem_append.mp z with z | z
      · exact lagP_ok h0 h9 e z
      · rw [List.mem_singleton.mp z]
        exact ⟨by decide, by decide⟩
    · exact lagM_ok e z
  · simp only [List.mem_cons, List.not_mem_nil, or_false] at z
    rcases z with rfl | rfl | rfl
    · exact ⟨⟨by decide, by decide⟩, by decide⟩
    · exact ⟨⟨by decide, by decide⟩, by decide⟩
    · exact ⟨⟨by decide, by decide⟩, by decide⟩
theorem valid_pre {s : WS} {a b : List Ev} (h : Valid s (a ++ b)) : Valid s a := (valid_append.mp h).1
theorem cut_hi {xs : List V} {n : Nat} (h : n ≤ xs.length) : cutV xs none (some (n : Int)) = xs.take n := by
  unfold cutV
  rw [HT.sIx_nat, HT.sIx_none, Nat.min_eq_left h, Nat.sub_zero, List.drop_zero]
theorem cut_lo {xs : List V} {n : Nat} (h : n ≤ xs.length) : cutV xs (some (n : Int)) none = xs.drop n := by
  unfold cutV
  rw [HT.sIx_nat, HT.sIx_none, Nat.min_eq_left h, List.take_of_length_le (by rw [List.length_drop]; omega)]
theorem bx_ne {H : Hp} {b p : Addr} {n : Nat} (h : Bx H b n) (np : H p = none) : p ≠ b := fun e => by
  obtain ⟨_, z⟩ := h.lst
  rw [← e, np] at z
  cases z
theorem reps {H : Hp} {w : Addr} (h : H w = some (.tup [.str "wait"])) : ∀ k, Evs H ((List.replicate k [V.ref w]).flatten) (laps k)
  | 0 => .nil
  | k + 1 => by
    rw [List.replicate_succ, List.flatten_cons]
    exact .cons ⟨w, rfl, h⟩ (reps h k)
theorem pr_take {α β : Type} {F : α → β → Prop} : ∀ {a : List α} {b : List β} (n : Nat), Paired F a b → Paired F (a.take n) (b.take n)
  | _, _, 0, _ => by rw [List.take_zero, List.take_zero]; exact .nil
  | _, _, n + 1, .nil => .nil
  | _, _, n + 1, .cons h t => .cons h (pr_take n t)
theorem pr_drop {α β : Type} {F : α → β → Prop} : ∀ {a : List α} {b : List β} (n : Nat), Paired F a b → Paired F (a.drop n) (b.drop n)
  | _, _, 0, h => h
  | _, _, n + 1, .nil => .nil
  | _, _, n + 1, .cons h t => pr_drop n t
abbrev s_law_lagging : Stmt := topS 18
abbrev N_law_lagging : List Str := ["_law_box_here", "_law_early", "_law_late", "_law_found"]
abbrev ps_law_lagging : List Str := ["_law_box_here"]
theorem sc_law_lagging : FnScope N_law_lagging ps_law_lagging (defScope s_law_lagging) := ⟨rfl, rfl, rfl, by decide +kernel, rfl, by decide +kernel, by decide +kernel⟩
def spLagging : Sp := fun vs H Q _ => ∃ (b : Addr) (m : Nat), vs = [.ref b] ∧ Bx H b (m + 5) ∧
  ∀ (v : V) (H' : Hp) (es : List Ev), Gr [b] H H' → Bx H' b m → IsTT H' v es → Valid .nil es → (∀ e ∈ es, e.ok) → es.length ≤ 60 → Q v H'
theorem has_lagging (D : Df K mg "_law_lagging" s_law_lagging ps_law_lagging) (T : Txt mg) (G_law_take : Has P w K mg base 1 "_law_take" ps_law_take spTake) : Has P w K mg base 2 "_law_lagging" ps_law_lagging spLagging := Has.mk' D fun f fd F => by
  refine F.ok sc_law_lagging (fun vs H Q E h => ?_) (fun cdv A outer s H vs Q E hr h => ?_)
  · obtain ⟨b, m, rfl, _⟩ := h
    rfl
  · obtain ⟨b, m, rfl, hb, q⟩ := h
    refine ⟨_, (pss_cons (ps_par (i := 1) (j := 2) (by rfl) sc_law_lagging.nd rfl rfl (by decide) rfl rfl (pa_cons (pe_op op_rep (pe_lst (pa_cons (pe_tup (pa_cons pe_str pa_nil)) pa_nil)) (pe_callH G_law_take (hr.mono (by decide)) (by rfl) (pa_cons (pv 0) (pa_cons pe_int pa_nil)))) (pa_cons (pe_op op_rep (pe_lst (pa_cons (pe_tup (pa_cons pe_str pa_nil)) pa_nil)) (pe_op op_add pe_int (pe_callH G_law_take (hr.mono (by decide)) (by rfl) (pa_cons (pv 0) (pa_cons pe_int pa_nil))))) pa_nil)) (by rfl))
(pss_cons (ps_set (i := 3) sc_law_lagging.nd rfl (Or.inl rfl) (pe_op op_cat (pe_op op_cat (pe_op op_cat (pe_lst (pa_cons (pe_tup (pa_cons pe_str (pa_cons pe_int pa_nil))) (pa_cons (pe_tup (pa_cons pe_str (pa_cons pe_str (pa_cons (pe_callH G_law_take (hr.mono (by decide)) (by rfl) (pa_cons (pv 0) (pa_cons pe_int pa_nil))) pa_nil)))) (pa_cons (pe_tup (pa_cons pe_str (pa_cons pe_int (pa_cons pe_int pa_nil)))) pa_nil)))) (pv 1)) (pe_lst (pa_cons (pe_tup (pa_cons pe_str (pa_cons pe_str pa_nil))) pa_nil))) (pv 2)))
(pss_cons (ps_if (pt_cmpR op_eq (pe_callH G_law_take (hr.mono (by decide)) (by rfl) (pa_cons (pv 0) (pa_cons pe_int pa_nil))) pe_int (nomark _))
  (pss_one (ps_set (i := 3) sc_law_lagging.nd rfl (Or.inl rfl) (pe_op op_cat (pv 3) (pe_lst (pa_cons (pe_tup (pa_cons pe_str (pa_cons pe_str (pa_cons pe_int pa_nil)))) (pa_cons (pe_tup (pa_cons pe_str (pa_cons pe_int (pa_cons pe_int pa_nil)))) pa_nil))))))
  (pss_one (ps_set (i := 3) sc_law_lagging.nd rfl (Or.inl rfl) (pe_op op_cat (pe_op op_cat (pe_op op_cat (pe_slice (sl_listK (K := K)) (pv 3) po_none (po_some pe_int)) (pe_lst (pa_cons (pe_tup (pa_cons pe_str (pa_cons pe_int pa_nil))) pa_nil))) (pe_slice (sl_listK (K := K)) (pv 3) (po_some pe_int) po_none)) (pe_lst (pa_cons (pe_tup (pa_cons pe_str (pa_cons pe_int (pa_cons pe_int pa_nil)))) (pa_cons (pe_tup (pa_cons pe_str (pa_cons pe_int (pa_cons pe_int pa_nil)))) (pa_cons (pe_tup (pa_cons pe_str (pa_cons pe_int (pa_cons pe_int pa_nil)))) pa_nil))))))))
(pss_one (ps_ret (pe_callTy (call_tuple_ofK (K := K)) (by rfl) T.m_tuple (by decide +kernel) (pa_cons (pe_slice (sl_listK (K := K)) (pv 3) po_none (po_some (pe_op op_sub (pe_callB (call_len_seqK (K := K)) (by rfl) T.m_len (by decide +kernel) (pa_cons (pv 3) pa_nil)) (pe_callTy call_int1 (by rfl) T.m_int (by decide +kernel) (pa_cons (pe_cmpR op_eq (pe_callH G_law_take (hr.mono (by decide)) (by rfl) (pa_cons (pv 0) (pa_cons pe_int pa_nil))) pe_int (nomark _)) pa_nil))))) pa_nil))))))), ?_⟩
    walk_at "w"
    refine ⟨WK.sz, fun w1 nw1 => ?_⟩
    have g1 : Gr [] H (upd H w1 (.tup [.str "wait"])) := Gr.new nw1
    have hw1 : (upd H w1 (.tup [.str "wait"])) w1 = some (.tup [.str "wait"]) := upd_same
    have hb1 := hb.keep g1 (by simp)
    generalize (upd H w1 (.tup [.str "wait"])) = H1 at *
    walk_at "w"
    refine ⟨WK.sz, fun l1 nl1 => ?_⟩
    have g2 : Gr [] H1 (upd H1 l1 (.lst [.ref w1])) := Gr.new nl1
    have hl1 : (upd H1 l1 (.lst [.ref w1])) l1 = some (.lst [.ref w1]) := upd_same
    have nb1 := bx_ne hb1 nl1
    have hb2 := hb1.keep g2 (by simp)
    have hw2 := g2.tup _ _ hw1
    generalize (upd H1 l1 (.lst [.ref w1])) = H2 at *
    walk_at "w"
    refine use_take (n := m + 4) hb2 (by omega) (by omega) (fun r1 H3 r10 r13 g3 hb3 => ?_)
    refine ⟨l1, r1, _, rfl, rfl, g3.k1 hl1 nb1, by omega, by omega, Nat.le_trans (show [V.ref w1].length * r1.toNat ≤ 3 by simp; omega) (by decide), fun p1 np1 => ?_⟩
    have g4 : Gr [] H3 (upd H3 p1 (.lst (List.replicate r1.toNat [V.ref w1]).flatten)) := Gr.new np1
    have hp1 : (upd H3 p1 (.lst (List.replicate r1.toNat [V.ref w1]).flatten)) p1 = some (.lst (List.replicate r1.toNat [V.ref w1]).flatten) := upd_same
    have ev1 := (reps (g3.tup _ _ hw2) r1.toNat).gr g4
    have pb1 := bx_ne hb3 np1
    have hb4 := hb3.keep g4 (by simp)
    have G4 := (((g1.trans g2).mono (by simp)).trans g3).trans (g4.mono (by simp))
    generalize (List.replicate r1.toNat [V.ref w1]).flatten = xs1 at *
    generalize (upd H3 p1 (.lst xs1)) = H4 at *
    clear g1 g2 g3 g4 hb hb1 hb2 hb3 hw1 hw2 hl1 nw1 nl1 np1 nb1
    walk_at "w"
    refine ⟨WK.sz, fun w2 nw2 => ?_⟩
    have g5 : Gr [] H4 (upd H4 w2 (.tup [.str "wait"])) := Gr.new nw2
    have hw5 : (upd H4 w2 (.tup [.str "wait"])) w2 = some (.tup [.str "wait"]) := upd_same
    have hp5 := g5.k0 hp1
    have ev5 := ev1.gr g5
    have hb5 := hb4.keep g5 (by simp)
    generalize (upd H4 w2 (.tup [.str "wait"])) = H5 at *
    walk_at "w"
    refine ⟨WK.sz, fun l2 nl2 => ?_⟩
    have g6 : Gr [] H5 (upd H5 l2 (.lst [.ref w2])) := Gr.new nl2
    have hl6 : (upd H5 l2 (.lst [.ref w2])) l2 = some (.lst [.ref w2]) := upd_same
    have nb2 := bx_ne hb5 nl2
    have hb6 := hb5.keep g6 (by simp)
    have hw6 := g6.tup _ _ hw5
    have hp6 := g6.k0 hp5
    have ev6 := ev5.gr g6
    generalize (upd H5 l2 (.lst [.ref w2])) = H6 at *
    walk_at "w"
    refine use_take (n := m + 3) hb6 (by omega) (by omega) (fun r2 H7 r20 r22 g7 hb7 => ?_)
    walk_at "w"
    refine ⟨l2, 1 + r2, _, rfl, rfl, g7.k1 hl6 nb2, by omega, by omega, Nat.le_trans (show [V.ref w2].length * (1 + r2).toNat ≤ 3 by simp; omega) (by decide), fun p2 np2 => ?_⟩
    have g8 : Gr [] H7 (upd H7 p2 (.lst (List.replicate (1 + r2).toNat [V.ref w2]).flatten)) := Gr.new np2
    have hp2 : (upd H7 p2 (.lst (List.replicate (1 + r2).toNat [V.ref w2]).flatten)) p2 = some (.lst (List.replicate (1 + r2).toNat [V.ref w2]).flatten) := upd_same
    have ev2 := (reps (g7.tup _ _ hw6) (1 + r2).toNat).gr g8
    have pb2 := bx_ne hb7 np2
    have hb8 := hb7.keep g8 (by simp)
    have hp8 := g8.k0 (g7.k1 hp6 pb1)
    have ev8 := (ev6.gr g7).gr g8
    have G8 := ((G4.trans ((g5.trans g6).mono (by simp))).trans g7).trans (g8.mono (by simp))
    have k1 : r1.toNat ≤ 2 := by omega
    have k2 : (1 + r2).toNat ≤ 2 := by omega
    generalize r1.toNat = n1 at *
    generalize (1 + r2).toNat = n2 at *
    generalize (List.replicate n2 [V.ref w2]).flatten = xs2 at *
    generalize (upd H7 p2 (.lst xs2)) = H8 at *
    clear g5 g6 g7 g8 hb4 hb5 hb6 hb7 hw5 hw6 hl6 nw2 nl2 np2 nb2 hp1 hp5 hp6 ev1 ev5 ev6 G4
    have xl1 : xs1.length ≤ 2 := by rw [ev8.length]; unfold laps; rw [List.length_replicate]; exact k1
    have xl2 : xs2.length ≤ 2 := by rw [ev2.length]; unfold laps; rw [List.length_replicate]; exact k2
    walk_at "w"
    refine ⟨WK.sz, fun t1 nt1 => ?_⟩
    have g1 : Gr [] H8 (upd H8 t1 (.tup [.str "join", .int 0])) := Gr.new nt1
    have ht1 : (upd H8 t1 (.tup [.str "join", .int 0])) t1 = some (.tup [.str "join", .int 0]) := upd_same
    have hb9 := hb8.keep g1 (by simp)
    generalize (upd H8 t1 (.tup [.str "join", .int 0])) = H9 at *
    walk_at "w"
    refine use_take (n := m + 2) hb9 (by omega) (by omega) (fun u H10 u0 u9 g2 hb10 => ?_)
    walk_at "w"
    refine ⟨WK.sz, fun t2 nt2 => ?_⟩
    have g3 : Gr [] H10 (upd H10 t2 (.tup [.str "put", .str "a", .int u])) := Gr.new nt2
    have ht2 : (upd H10 t2 (.tup [.str "put", .str "a", .int u])) t2 = some (.tup [.str "put", .str "a", .int u]) := upd_same
    generalize (upd H10 t2 (.tup [.str "put", .str "a", .int u])) = H11 at *
    walk_at "w"
    refine ⟨WK.sz, fun t3 nt3 => ?_⟩
    have g4 : Gr [] H11 (upd H11 t3 (.tup [.str "read", .int 0, .int 1])) := Gr.new nt3
    have ht3 : (upd H11 t3 (.tup [.str "read", .int 0, .int 1])) t3 = some (.tup [.str "read", .int 0, .int 1]) := upd_same
    generalize (upd H11 t3 (.tup [.str "read", .int 0, .int 1])) = H12 at *
    walk_at "w"
    refine ⟨WK.sz, fun la nla => ?_⟩
    have g5 : Gr [] H12 (upd H12 la (.lst [V.ref t1, V.ref t2, V.ref t3])) := Gr.new nla
    have hla : (upd H12 la (.lst [V.ref t1, V.ref t2, V.ref t3])) la = some (.lst [V.ref t1, V.ref t2, V.ref t3]) := upd_same
    have evP : Evs (upd H12 la (.lst [V.ref t1, V.ref t2, V.ref t3])) [V.ref t1, V.ref t2, V.ref t3] (lagP u) :=
      .cons ⟨t1, rfl, g5.tup _ _ (g4.tup _ _ (g3.tup _ _ (g2.tup _ _ ht1)))⟩ (.cons ⟨t2, rfl, g5.tup _ _ (g4.tup _ _ ht2)⟩ (.cons ⟨t3, rfl, g5.tup _ _ ht3⟩ .nil))
    have g35 := (g3.trans g4).trans g5
    have hp13 := g35.k0 (g2.k1 (g1.k0 hp8) pb1)
    have hq13 := g35.k0 (g2.k1 (g1.k0 hp2) pb2)
    have ev13 := ((ev8.gr g1).gr g2).gr g35
    have ew13 := ((ev2.gr g1).gr g2).gr g35
    have hb13 := hb10.keep g35 (by simp)
    have G13 := ((G8.trans (g1.mono (by simp))).trans g2).trans (g35.mono (by simp))
    generalize (upd H12 la (.lst [V.ref t1, V.ref t2, V.ref t3])) = H13 at *
    clear g1 g2 g3 g4 g5 g35 hb8 hb9 hb10 ht1 ht2 ht3 hp8 hp2 ev8 ev2 G8
    walk_at "w"
    refine ⟨la, p1, _, _, rfl, rfl, hla, hp13, Nat.le_trans (show 3 + xs1.length ≤ 5 by omega) (by decide), fun lb nlb => ?_⟩
    have g1 : Gr [] H13 (upd H13 lb (.lst ([V.ref t1, V.ref t2, V.ref t3] ++ xs1))) := Gr.new nlb
    have hlb : (upd H13 lb (.lst ([V.ref t1, V.ref t2, V.ref t3] ++ xs1))) lb = some (.lst ([V.ref t1, V.ref t2, V.ref t3] ++ xs1)) := upd_same
    generalize (upd H13 lb (.lst ([V.ref t1, V.ref t2, V.ref t3] ++ xs1))) = H14 at *
    walk_at "w"
    refine ⟨WK.sz, fun t4 nt4 => ?_⟩
    have g2 : Gr [] H14 (upd H14 t4 (.tup [.str "drop", .str "a"])) := Gr.new nt4
    have ht4 : (upd H14 t4 (.tup [.str "drop", .str "a"])) t4 = some (.tup [.str "drop", .str "a"]) := upd_same
    generalize (upd H14 t4 (.tup [.str "drop", .str "a"])) = H15 at *
    walk_at "w"
    refine ⟨WK.sz, fun lc nlc => ?_⟩
    have g3 : Gr [] H15 (upd H15 lc (.lst [V.ref t4])) := Gr.new nlc
    have hlc : (upd H15 lc (.lst [V.ref t4])) lc = some (.lst [V.ref t4]) := upd_same
    generalize (upd H15 lc (.lst [V.ref t4])) = H16 at *
    walk_at "w"
    refine ⟨lb, lc, _, _, rfl, rfl, g3.k0 (g2.k0 hlb), hlc, Nat.le_trans (show ([V.ref t1, V.ref t2, V.ref t3] ++ xs1).length + 1 ≤ 6 by simp; omega) (by decide), fun ld nld => ?_⟩
    have g4 : Gr [] H16 (upd H16 ld (.lst ([V.ref t1, V.ref t2, V.ref t3] ++ xs1 ++ [V.ref t4]))) := Gr.new nld
    have hld : (upd H16 ld (.lst ([V.ref t1, V.ref t2, V.ref t3] ++ xs1 ++ [V.ref t4]))) ld = some (.lst ([V.ref t1, V.ref t2, V.ref t3] ++ xs1 ++ [V.ref t4])) := upd_same
    generalize (upd H16 ld (.lst ([V.ref t1, V.ref t2, V.ref t3] ++ xs1 ++ [V.ref t4]))) = H17 at *
    have g14 := ((g1.trans g2).trans g3).trans g4
    walk_at "w"
    refine ⟨ld, p2, _, _, rfl, rfl, hld, g14.k0 hq13, Nat.le_trans (show ([V.ref t1, V.ref t2, V.ref t3] ++ xs1 ++ [V.ref t4]).length + xs2.length ≤ 8 by simp; omega) (by decide), fun le nle => ?_⟩
    have g5 : Gr [] H17 (upd H17 le (.lst ([V.ref t1, V.ref t2, V.ref t3] ++ xs1 ++ [V.ref t4] ++ xs2))) := Gr.new nle
    have hle : (upd H17 le (.lst ([V.ref t1, V.ref t2, V.ref t3] ++ xs1 ++ [V.ref t4] ++ xs2))) le = some (.lst ([V.ref t1, V.ref t2, V.ref t3] ++ xs1 ++ [V.ref t4] ++ xs2)) := upd_same
    have g15 := g14.trans g5
    have evE : Evs (upd H17 le (.lst ([V.ref t1, V.ref t2, V.ref t3] ++ xs1 ++ [V.ref t4] ++ xs2))) ([V.ref t1, V.ref t2, V.ref t3] ++ xs1 ++ [V.ref t4] ++ xs2) (lag0 u n1 n2) := by
      have e : lag0 u n1 n2 = lagP u ++ laps n1 ++ [.drop "a"] ++ laps n2 := by unfold lag0 lagM; simp [List.append_assoc]
      rw [e]
      exact pr_append (pr_append (pr_append (evP.gr g15) (ev13.gr g15)) (.cons ⟨t4, rfl, g5.tup _ _ (g4.tup _ _ (g3.tup _ _ ht4))⟩ .nil)) (ew13.gr g15)
    have hb18 := hb13.keep g15 (by simp)
    have G18 := G13.trans (g15.mono (by simp))
    have lb18 := bx_ne (hb13.keep g14 (by simp)) nle
    have len0 : ([V.ref t1, V.ref t2, V.ref t3] ++ xs1 ++ [V.ref t4] ++ xs2 : List V).length ≤ 8 ∧ 3 ≤ ([V.ref t1, V.ref t2, V.ref t3] ++ xs1 ++ [V.ref t4] ++ xs2 : List V).length := by
      simp
      omega
    generalize (upd H17 le (.lst ([V.ref t1, V.ref t2, V.ref t3] ++ xs1 ++ [V.ref t4] ++ xs2))) = H18 at *
    generalize ([V.ref t1, V.ref t2, V.ref t3] ++ xs1 ++ [V.ref t4] ++ xs2 : List V) = ys at *
    clear g1 g2 g3 g4 g5 g14 g15 hla hlb hlc hld ht4 evP ev13 ew13 hp13 hq13 hb13 G13 nla nlb nlc nld nle
    walk_at "w"
    refine WK.w_genS (t := tIfS _ _ _) (fun σ' H' => ∃ lf zs fs, σ' = [some (.ref b), some (.ref p1), some (.ref p2), some (.ref lf)] ∧ Gr [b] H18 H' ∧ Bx H' b (m + 1) ∧ H' lf = some (.lst zs) ∧ Evs H' zs fs ∧ Valid .nil fs ∧ (∀ e ∈ fs, e.ok) ∧ zs.length ≤ 12 ∧ 1 ≤ zs.length ∧ lf ≠ b) ?_ (fun D' _ _ _ h0 => ?_)
    rotate_left
    · walk_at "i"
      refine use_take (n := m + 1) hb18 (by omega) (by omega) (fun r3 H19 r30 r32 g1 hb19 => ?_)
      have hle19 := g1.k1 hle lb18
      have ev19 := evE.gr g1
      walk_at "w"
      refine WK.w_2 (fun _ => ?_) (fun _ => ?_)
      · walk_at "w"
        refine ⟨WK.sz, fun t1 nt1 => ?_⟩
        have g2 : Gr [] H19 (upd H19 t1 (.tup [.str "put", .str "b", .int 1])) := Gr.new nt1
        have ht1 : (upd H19 t1 (.tup [.str "put", .str "b", .int 1])) t1 = some (.tup [.str "put", .str "b", .int 1]) := upd_same
        generalize (upd H19 t1 (.tup [.str "put", .str "b", .int 1])) = H20 at *
        walk_at "w"
        refine ⟨WK.sz, fun t2 nt2 => ?_⟩
        have g3 : Gr [] H20 (upd H20 t2 (.tup [.str "read", .int 0, .int 3])) := Gr.new nt2
        have ht2 : (upd H20 t2 (.tup [.str "read", .int 0, .int 3])) t2 = some (.tup [.str "read", .int 0, .int 3]) := upd_same
        generalize (upd H20 t2 (.tup [.str "read", .int 0, .int 3])) = H21 at *
        walk_at "w"
        refine ⟨WK.sz, fun la nla => ?_⟩
        have g4 : Gr [] H21 (upd H21 la (.lst [.ref t1, .ref t2])) := Gr.new nla
        have hla : (upd H21 la (.lst [.ref t1, .ref t2])) la = some (.lst [.ref t1, .ref t2]) := upd_same
        generalize (upd H21 la (.lst [.ref t1, .ref t2])) = H22 at *
        have g24 := (g2.trans g3).trans g4
        walk_at "w"
        refine ⟨le, la, _, _, rfl, rfl, g24.k0 hle19, hla, Nat.le_trans (show ys.length + 2 ≤ 10 by omega) (by decide), fun lf nlf => ?_⟩
        have g5 : Gr [] H22 (upd H22 lf (.lst (ys ++ [V.ref t1, V.ref t2]))) := Gr.new nlf
        have hb22 := hb19.keep g24 (by simp)
        refine h0 _ _ ⟨lf, ys ++ [V.ref t1, V.ref t2], lag1 u n1 n2, rfl, g1.trans ((g24.trans g5).mono (by simp)), hb22.keep g5 (by simp), upd_same, ?_, lag1_valid _ _ _, lag1_ok u0 u9, by simp; omega, by simp, bx_ne hb22 nlf⟩
        exact pr_append (ev19.gr (g24.trans g5)) (.cons ⟨t1, rfl, g5.tup _ _ (g4.tup _ _ (g3.tup _ _ ht1))⟩ (.cons ⟨t2, rfl, g5.tup _ _ (g4.tup _ _ ht2)⟩ .nil))
      · walk_at "w"
        refine ⟨le, ys, rfl, SqL.of hle19, fun lg nlg => ?_⟩
        have g2 : Gr [] H19 (upd H19 lg (.lst (cutV ys none (some 3)))) := Gr.new nlg
        have hlg : (upd H19 lg (.lst (cutV ys none (some 3)))) lg = some (.lst (cutV ys none (some 3))) := upd_same
        generalize (upd H19 lg (.lst (cutV ys none (some 3)))) = H20 at *
        rw [show (some 3 : Option Int) = some ((3 : Nat) : Int) from rfl, cut_hi len0.2] at hlg
        walk_at "w"
        refine ⟨WK.sz, fun t1 nt1 => ?_⟩
        have g3 : Gr [] H20 (upd H20 t1 (.tup [.str "save", .int 0])) := Gr.new nt1
        have ht1 : (upd H20 t1 (.tup [.str "save", .int 0])) t1 = some (.tup [.str "save", .int 0]) := upd_same
        generalize (upd H20 t1 (.tup [.str "save", .int 0])) = H21 at *
        walk_at "w"
        refine ⟨WK.sz, fun la nla => ?_⟩
        have g4 : Gr [] H21 (upd H21 la (.lst [.ref t1])) := Gr.new nla
        have hla : (upd H21 la (.lst [.ref t1])) la = some (.lst [.ref t1]) := upd_same
        generalize (upd H21 la (.lst [.ref t1])) = H22 at *
        walk_at "w"
        refine ⟨lg, la, _, _, rfl, rfl, (g3.trans g4).k0 hlg, hla, Nat.le_trans (show (ys.take 3).length + 1 ≤ 10 by rw [List.length_take]; omega) (by decide), fun lh nlh => ?_⟩
        have g5 : Gr [] H22 (upd H22 lh (.lst (ys.take 3 ++ [V.ref t1]))) := Gr.new nlh
        have hlh : (upd H22 lh (.lst (ys.take 3 ++ [V.ref t1]))) lh = some (.lst (ys.take 3 ++ [V.ref t1])) := upd_same
        generalize (upd H22 lh (.lst (ys.take 3 ++ [V.ref t1]))) = H23 at *
        have g25 := ((g2.trans g3).trans g4).trans g5
        walk_at "w"
        refine ⟨le, ys, rfl, SqL.of (g25.k0 hle19), fun li nli => ?_⟩
        have g6 : Gr [] H23 (upd H23 li (.lst (cutV ys (some 3) none))) := Gr.new nli
        have hli : (upd H23 li (.lst (cutV ys (some 3) none))) li = some (.lst (cutV ys (some 3) none)) := upd_same
        generalize (upd H23 li (.lst (cutV ys (some 3) none))) = H24 at *
        rw [show (some 3 : Option Int) = some ((3 : Nat) : Int) from rfl, cut_lo len0.2] at hli
        walk_at "w"
        refine ⟨lh, li, _, _, rfl, rfl, g6.k0 hlh, hli, Nat.le_trans (show (ys.take 3 ++ [V.ref t1]).length + (ys.drop 3).length ≤ 10 by simp; omega) (by decide), fun lj nlj => ?_⟩
        have g7 : Gr [] H24 (upd H24 lj (.lst (ys.take 3 ++ [V.ref t1] ++ ys.drop 3))) := Gr.new nlj
        have hlj : (upd H24 lj (.lst (ys.take 3 ++ [V.ref t1] ++ ys.drop 3))) lj = some (.lst (ys.take 3 ++ [V.ref t1] ++ ys.drop 3)) := upd_same
        generalize (upd H24 lj (.lst (ys.take 3 ++ [V.ref t1] ++ ys.drop 3))) = H25 at *
        have g27 := (g25.trans g6).trans g7
        have ht25 := g7.tup _ _ (g6.tup _ _ (g5.tup _ _ (g4.tup _ _ ht1)))
        walk_at "w"
        refine ⟨WK.sz, fun t2 nt2 => ?_⟩
        have k1' : Gr [] H25 (upd H25 t2 (.tup [.str "load", .int 1, .int 0])) := Gr.new nt2
        have ht2 : (upd H25 t2 (.tup [.str "load", .int 1, .int 0])) t2 = some (.tup [.str "load", .int 1, .int 0]) := upd_same
        generalize (upd H25 t2 (.tup [.str "load", .int 1, .int 0])) = H26 at *
        walk_at "w"
        refine ⟨WK.sz, fun t3 nt3 => ?_⟩
        have k2' : Gr [] H26 (upd H26 t3 (.tup [.str "read", .int 0, .int 2])) := Gr.new nt3
        have ht3 : (upd H26 t3 (.tup [.str "read", .int 0, .int 2])) t3 = some (.tup [.str "read", .int 0, .int 2]) := upd_same
        generalize (upd H26 t3 (.tup [.str "read", .int 0, .int 2])) = H27 at *
        walk_at "w"
        refine ⟨WK.sz, fun t4 nt4 => ?_⟩
        have k3' : Gr [] H27 (upd H27 t4 (.tup [.str "read", .int 1, .int 2])) := Gr.new nt4
        have ht4 : (upd H27 t4 (.tup [.str "read", .int 1, .int 2])) t4 = some (.tup [.str "read", .int 1, .int 2]) := upd_same
        generalize (upd H27 t4 (.tup [.str "read", .int 1, .int 2])) = H28 at *
        walk_at "w"
        refine ⟨WK.sz, fun lk nlk => ?_⟩
        have k4' : Gr [] H28 (upd H28 lk (.lst [.ref t2, .ref t3, .ref t4])) := Gr.new nlk
        have hlk : (upd H28 lk (.lst [.ref t2, .ref t3, .ref t4])) lk = some (.lst [.ref t2, .ref t3, .ref t4]) := upd_same
        generalize (upd H28 lk (.lst [.ref t2, .ref t3, .ref t4])) = H29 at *
        have k14 := ((k1'.trans k2').trans k3').trans k4'
        walk_at "w"
        refine ⟨lj, lk, _, _, rfl, rfl, k14.k0 hlj, hlk, Nat.le_trans (show (ys.take 3 ++ [V.ref t1] ++ ys.drop 3).length + 3 ≤ 12 by simp; omega) (by decide), fun lf nlf => ?_⟩
        have k5' : Gr [] H29 (upd H29 lf (.lst (ys.take 3 ++ [V.ref t1] ++ ys.drop 3 ++ [V.ref t2, V.ref t3, V.ref t4]))) := Gr.new nlf
        have G29 := g27.trans k14
        have hb29 := hb19.keep G29 (by simp)
        refine h0 _ _ ⟨lf, _, lag2 u n1 n2, rfl, g1.trans ((G29.trans k5').mono (by simp)), hb29.keep k5' (by simp), upd_same, ?_, lag2_valid _ _ _, lag2_ok u0 u9, by simp; omega, by simp; omega, bx_ne hb29 nlf⟩
        have evA := ev19.gr (G29.trans k5')
        refine pr_append (pr_append (pr_append ?_ (.cons ⟨t1, rfl, k5'.tup _ _ (k14.tup _ _ ht25)⟩ .nil)) ?_) (.cons ⟨t2, rfl, k5'.tup _ _ (k4'.tup _ _ (k3'.tup _ _ (k2'.tup _ _ ht2)))⟩ (.cons ⟨t3, rfl, k5'.tup _ _ (k4'.tup _ _ (k3'.tup _ _ ht3))⟩ (.cons ⟨t4, rfl, k5'.tup _ _ (k4'.tup _ _ ht4)⟩ .nil)))
        · exact pr_take 3 evA
        · exact pr_drop 3 evA
    · rintro _ H19 ⟨lf, zs, fs, rfl, g1, hb19, hlf, evZ, vf, okf, zl, z1, fb⟩
      walk_at "w"
      refine use_take (n := m) hb19 (by omega) (by omega) (fun r4 H20 r40 r43 g2 hb20 => ?_)
      have hlf20 := g2.k1 hlf fb
      have ev20 := evZ.gr g2
      walk_at "w"
      obtain ⟨n, hn, hl⟩ : ∃ n : Nat, (zs.length : Int) - (if decide (r4 = 0) = true then 1 else 0) = (n : Int) ∧ n ≤ zs.length := by
        split
        · exact ⟨zs.length - 1, by omega, by omega⟩
        · exact ⟨zs.length, by omega, Nat.le_refl _⟩
      rw [hn]
      refine ⟨lf, zs, rfl, SqL.of hlf20, fun lg nlg => ?_⟩
      rw [cut_hi hl]
      have g3 : Gr [] H20 (upd H20 lg (.lst (zs.take n))) := Gr.new nlg
      have hlg : (upd H20 lg (.lst (zs.take n))) lg = some (.lst (zs.take n)) := upd_same
      generalize (upd H20 lg (.lst (zs.take n))) = H21 at *
      walk_at "w"
      refine ⟨lg, _, rfl, .inl ⟨SqL.of hlg, fun p np => ?_⟩⟩
      have g4 : Gr [] H21 (upd H21 p (.tup (zs.take n))) := Gr.new np
      have zf := evZ.length
      refine q _ _ (fs.take n) (((G18.trans g1).trans g2).trans ((g3.trans g4).mono (by simp))) (hb20.keep (g3.trans g4) (by simp)) ⟨p, _, rfl, upd_same, pr_take n (ev20.gr (g3.trans g4))⟩ ?_ (fun e he => okf e (List.mem_of_mem_take he)) (by rw [List.length_take]; omega)
      rw [← List.take_append_drop n fs] at vf
      exact valid_pre vf

end
end PK
namespace PK
open PySem L2
section
variable {P : Program} {w : World} {K : PySem.W.Frag} {mg : Str → Option Value} {base : Heap}
/-- some of the rows, one of each row's readers -/
structure Drawn (rows : List (Nat × List Int)) (ps : List (Int × Int)) (i : Nat) : Prop where
  at_ : ∀ p ∈ ps, ∃ k r, k < i ∧ rows[k]? = some r ∧ p.1 = (r.1 : Int) ∧ p.2 ∈ r.2
  up : ps.Pairwise fun a b => a.1 < b.1
  len : ps.length ≤ i
theorem Drawn.not {rows : List (Nat × List Int)} {ps : List (Int × Int)} {i : Nat} (d : Drawn rows ps i) : Drawn rows ps (i + 1) :=
  ⟨fun p hp => let ⟨k, r, h1, h2⟩ := d.at_ p hp; ⟨k, r, Nat.lt_succ_of_lt h1, h2⟩, d.up, Nat.le_succ_of_le d.len⟩
theorem Drawn.add {rows : List (Nat × List Int)} {ps : List (Int × Int)} {i t : Nat} {ys : List Int} {y : Int} (d : Drawn rows ps i) (h : rows[i]? = some (t, ys)) (hy : y ∈ ys) (up : rows.Pairwise fun a b => a.1 < b.1) : Drawn rows (ps ++ [((t : Int), y)]) (i + 1) := by
  refine ⟨fun p hp => ?_, List.pairwise_append.mpr ⟨d.up, List.pairwise_singleton _ _, fun p hp x hx => ?_⟩, by rw [List.length_append, List.length_singleton]; exact Nat.succ_le_succ d.len⟩
  · rcases List.mem_append.mp hp with z | z
    · obtain ⟨k, r, h1, h2⟩ := d.at_ p z
      exact ⟨k, r, Nat.lt_succ_of_lt h1, h2⟩
    · rw [List.mem_singleton.mp z]
      exact ⟨i, _, Nat.lt_succ_self _, h, rfl, hy⟩
  · rw [List.mem_singleton.mp hx]
    obtain ⟨k, r, h1, h2, h3, _⟩ := d.at_ p hp
    obtain ⟨l1, q1⟩ := List.getElem?_eq_some_iff.mp h2
    obtain ⟨l2, q2⟩ := List.getElem?_eq_some_iff.mp h
    have z := List.pairwise_iff_getElem.mp up k i l1 l2 h1
    rw [q1, q2] at z
    show p.1 < (t : Int)
    rw [h3]
    have z : r.1 < t := z
    omega
theorem Drawn.rd {es : List Ev} {rows : List (Nat × List Int)} {ps : List (Int × Int)} {i j : Nat} (d : Drawn rows ps i) (fo : FrOk es rows j) : RdOk es ps := by
  refine ⟨?_, fun p hp => ?_⟩
  · exact (List.pairwise_map.mpr (d.up.imp fun z e => by omega))
  · obtain ⟨k, r, _, h2, h3, h4⟩ := d.at_ p hp
    obtain ⟨f1, f2, _, f3⟩ := fo.at_ r (List.mem_of_getElem? h2)
    exact ⟨r.1, h3, f2, f3 _ h4⟩
abbrev s_law_some_reads : Stmt := topS 19
abbrev N_law_some_reads : List Str := ["_law_box_here", "_law_table_here", "_law_found", "_law_spot", "_law_folk"]
abbrev ps_law_some_reads : List Str := ["_law_box_here", "_law_table_here"]
theorem sc_law_some_reads : FnScope N_law_some_reads ps_law_some_reads (defScope s_law_some_reads) := ⟨rfl, rfl, rfl, by decide +kernel, rfl, by decide +kernel, by decide +kernel⟩
def spSome : Sp := fun vs H Q _ => ∃ (b : Addr) (m : Nat) (v : V) (es : List Ev), vs = [.ref b, v] ∧ Bx H b (m + 120) ∧ IsTT H v es ∧ Valid .nil es ∧ es.length ≤ 60 ∧
  ∀ (t : Addr) (zs : List V) (ps : List (Int × Int)) (H' : Hp), Gr [b] H H' → Bx H' b m → FzT H' t zs → Tps H' zs (ps.map fun e => [.int e.1, .int e.2]) → RdOk es ps → ps.length ≤ 60 → Q (.ref t) H'
theorem has_somereads (D : Df K mg "_law_some_reads" s_law_some_reads ps_law_some_reads) (T : Txt mg) (G_law_take : Has P w K mg base 1 "_law_take" ps_law_take spTake) (G_law_of : Has P w K mg base 2 "_law_of" ps_law_of spOf) (G_law_free : Has P w K mg base 2 "_law_free" ps_law_free spFree) : Has P w K mg base 3 "_law_some_reads" ps_law_some_reads spSome := Has.mk' D fun f fd F => by
  refine F.ok sc_law_some_reads (fun vs H Q E h => ?_) (fun cdv A outer s H vs Q E hr h => ?_)
  · obtain ⟨b, m, v, es, rfl, _⟩ := h
    rfl
  · obtain ⟨b, m, v, es, rfl, hb, tt, va, len, q⟩ := h
    refine ⟨_, (pss_cons (ps_set (i := 2) sc_law_some_reads.nd rfl (Or.inl rfl) (pe_lst pa_nil))
(pss_cons (ps_for PassesOwn.never rfl (pi_list (pe_callH G_law_free (hr.mono (by decide)) (by rfl) (pa_cons (pv 1) pa_nil))) (pg_tup rfl (pgs_cons (pg_name (i := 3) sc_law_some_reads.nd rfl (Or.inl rfl)) (pgs_cons (pg_name (i := 4) sc_law_some_reads.nd rfl (Or.inl rfl)) pgs_nil)))
  (pss_one (ps_if (PW.pt (pw_and (pt_cmpR (op_neDK (K := K) hr.units) (pv 4) (pe_lst pa_nil) (nomark _)) (pw_and1 (pt_cmpR op_gt (pe_callH G_law_take (hr.mono (by decide)) (by rfl) (pa_cons (pv 0) (pa_cons pe_int pa_nil))) pe_int (nomark _)))))
    (pss_one (ps_expr (pe_bm PySem.F.plainAttrs_list PySem.F.slot_list_append PySem.F.type_list_append mt_append (pv 2) (pa_cons (pe_tup (pa_cons (pv 3) (pa_cons (pe_callH G_law_of (hr.mono (by decide)) (by rfl) (pa_cons (pv 0) (pa_cons (pv 4) pa_nil))) pa_nil))) pa_nil))))
    pss_nil)))
(pss_one (ps_ret (pe_callTy (call_tuple_fz (K := K)) (by rfl) T.m_tuple (by decide +kernel) (pa_cons (pv 2) pa_nil)))))), ?_⟩
    walk_at "w"
    refine ⟨WK.sz, fun L nL => ?_⟩
    have g0 : Gr [] H (upd H L (.lst [])) := Gr.new nL
    have l0 : (upd H L (.lst [])) L = some (.lst []) := upd_same
    have Lb := bx_ne hb nL
    have hb0 := hb.keep g0 (by simp)
    have tt0 := tt.gr g0
    generalize (upd H L (.lst [])) = H0 at *
    walk_at "w"
    refine ⟨v, es, rfl, tt0, va, len, fun R rs rows H1 g1 nR hR fr fo => ?_⟩
    have l1 := g1.k0 l0
    have hb1 := hb0.keep g1 (by simp)
    have RL : R ≠ L := fun e => by rw [e, l0] at nR; cases nR
    have Rb := bx_ne hb0 nR
    walk_at "w"
    have rl : rs.length = rows.length := fr.length
    have rn : rows.length ≤ 60 := Nat.le_trans fo.len len
    refine ⟨⟨rs, SqL.of hR⟩, lp_it (walk_list (K := K) (a := R) (xs := rs)) (fun i σ' H' => ∃ xs ps y3 y4, σ' = [some (.ref b), some v, some (.ref L), y3, y4] ∧ Gr [b, L] H1 H' ∧ Bx H' b (m + 120 - 2 * i) ∧ H' L = some (.lst xs) ∧ Tps H' xs (ps.map fun e => [.int e.1, .int e.2]) ∧ Drawn rows ps i)
      ⟨[], [], none, none, rfl, Gr.refl _ _, hb1.mono (by omega), l1, .nil, ⟨by simp, .nil, Nat.le_refl _⟩⟩ (fun i σ' H' _ ⟨_, _, _, _, _, g, _⟩ => SqL.of (g.keep _ _ (by simp [RL, Rb]) hR)) ?_ ?_⟩
    · rintro i x _ H2o H2 hi ⟨xs, ps, y3, y4, rfl, g2, hb2, hl2, tp2, dr⟩ ⟨rfl, ex⟩
      obtain ⟨⟨t, ys⟩, hrow, c, f, rfl, nf, hc, hf⟩ := pr_get fr ex
      have il := (List.getElem?_eq_some_iff.mp hrow).1
      have fb : f ≠ b := bx_ne hb0 nf
      have fL : f ≠ L := fun e => by rw [e, l0] at nf; cases nf
      have hc2 := g2.tup _ _ hc
      have hf2 := g2.keep _ _ (by simp [fb, fL]) hf
      have xl : xs.length ≤ 60 := by
        have := dr.len
        rw [tp2.length, List.length_map]
        omega
      have y100 := (fo.at_ _ (List.mem_of_getElem? hrow)).2.2.1
      dsimp only at hc2 hf2 y100
      walk_at "w"
      walk_at "i"
      refine WK.w_genT (fun t' H' => ∃ k, k ≤ 1 ∧ Gr [b] H2 H' ∧ Bx H' b (m + 120 - 2 * i - k) ∧ (t' = true → ys ≠ [])) ?_ (fun R0 h0 => ?_)
      rotate_left
      · walk_at "i"
        refine ⟨WK.sz, fun z nz => ?_⟩
        have g3 : Gr [] H2 (upd H2 z (.lst [])) := Gr.new nz
        have hz3 : (upd H2 z (.lst [])) z = some (.lst []) := upd_same
        have hb3 := hb2.keep g3 (by simp)
        have hf3 := g3.k0 hf2
        generalize (upd H2 z (.lst [])) = H3 at *
        walk_at "w"
        refine w_neNil (n := 0) (SqL.of hf3) (dp_ints _) (.ints _) (by decide) hz3 ?_
        walk_at "w"
        refine ite2 (fun h5 => ?_) (fun h5 => ?_)
        · walk_at "w"
          refine use_take (n := m + 120 - 2 * i - 1) (hb3.mono (by omega)) (by omega) (by omega) (fun r H4 r0 r3 g4 hb4 => ?_)
          walk_at "w"
          exact h0 _ _ ⟨1, by omega, (g3.mono (by simp)).trans g4, hb4, fun _ e => by rw [e] at h5; simp at h5⟩
        · exact h0 _ _ ⟨0, by omega, g3.mono (by simp), hb3.mono (by omega), fun z => by cases z⟩
      · rintro t' H3 ⟨k, k1, g3, hb3, ne⟩
        have hl3 := g3.k1 hl2 Lb
        have tp3 := tp2.gr g3
        have hf3 := g3.k1 hf2 fb
        cases t' with
        | false =>
          refine WK.w_ifN (by decide) ?_
          exact ⟨xs, ps, _, _, rfl, g2.trans (g3.mono (by simp)), hb3.mono (by omega), hl3, tp3, dr.not⟩
        | true =>
          have ne := ne rfl
          refine WK.w_ifP rfl ?_
          walk_at "w"
          refine WK.w_tyL hl3 ?_
          walk_at "w"
          refine use_of (n := m + 120 - 2 * i - 2) (hb3.mono (by omega)) hf3 fb (by simpa using ne) (by rw [List.length_map]; omega) (fun j x H4 hx g4 hb4 => ?_)
          obtain ⟨y, hy, rfl⟩ : ∃ y, ys[j]? = some y ∧ x = .int y := by
            rw [List.getElem?_map] at hx
            cases e : ys[j]? with
            | none => rw [e] at hx; cases hx
            | some y => rw [e] at hx; exact ⟨y, rfl, (Option.some.inj hx).symm⟩
          have hl4 := g4.k1 hl3 Lb
          have tp4 := tp3.gr g4
          walk_at "w"
          refine ⟨WK.sz, fun p np => ?_⟩
          have g5 : Gr [] H4 (upd H4 p (.tup [.int (t : Nat), .int y])) := Gr.new np
          have hp5 : (upd H4 p (.tup [.int (t : Nat), .int y])) p = some (.tup [.int (t : Nat), .int y]) := upd_same
          have hb5 := hb4.keep g5 (by simp)
          generalize (upd H4 p (.tup [.int (t : Nat), .int y])) = H5 at *
          walk_at "w"
          refine ⟨L, xs, _, rfl, rfl, g5.k0 hl4, WK.sz' (by omega), ?_⟩
          have g6 : Gr [L] H5 (upd H5 L (.lst (xs ++ [.ref p]))) := Gr.mutL (g5.k0 hl4) (by simp)
          refine ⟨xs ++ [.ref p], ps ++ [((t : Int), y)], _, _, rfl, (g2.trans ((g3.trans g4).mono (by simp))).trans ((g5.mono (by simp)).trans (g6.mono (by simp))), (hb5.keep g6 (by simpa using Lb.symm)).mono (by omega), upd_same, ?_, dr.add hrow (List.mem_of_getElem? hy) fo.up⟩
          rw [List.map_append]
          exact pr_append ((tp4.gr g5).gr g6) (.cons ⟨p, rfl, g6.tup _ _ hp5⟩ .nil)
    · rintro _ H2 ⟨xs, ps, y3, y4, rfl, g2, hb2, hl2, tp2, dr⟩
      rw [rl] at hb2 dr
      walk_at "w"
      refine ⟨L, xs, rfl, SqL.of hl2, fun l ob h1 h2 nl => ?_⟩
      have g3 : Gr [] H2 (upd H2 l (.frz ob (.tup xs))) := Gr.new nl
      refine q l xs ps _ ?_ ((hb2.keep g3 (by simp)).mono (by omega)) ⟨ob, upd_same, h1, h2⟩ (tp2.gr g3) (dr.rd fo) (Nat.le_trans dr.len (by omega))
      exact ((g0.trans g1).mono (by simp)).own (M := [b]) ((g2.mono (by intro z hz; simpa [or_comm] using hz)).trans (g3.mono (by simp))) nL

end
end PK
namespace PK
open PySem L2
section
variable {P : Program} {w : World} {K : PySem.W.Frag} {mg : Str → Option Value} {base : Heap}
theorem atom_fine {n : Nat} : ∀ {x : V}, Atom x → Fine n (atomD x)
  | .non, _ => by cases n <;> trivial
  | .bl _, _ => by cases n <;> trivial
  | .int _, _ => by cases n <;> trivial
  | .str _, h => by cases n <;> exact h
theorem tp_fine {n : Nat} {xs : List V} (h : ∀ x ∈ xs, Atom x) (l : xs.length ≤ 1000) : Fine (n + 1) (tpD xs) :=
  ⟨by rw [List.length_map]; exact l, fun d hd => by
    obtain ⟨x, hx, rfl⟩ := List.mem_map.mp hd
    exact atom_fine (h x hx)⟩
/-! ### the timetable as data -/
def tabD (es : List Ev) : PyData := .tuple (es.map evD)
theorem tab_fine {es : List Ev} (hk : ∀ e ∈ es, e.kok) (hl : es.length ≤ 500) : Fine 2 (tabD es) :=
  ⟨by rw [List.length_map]; omega, fun d hd => by
    obtain ⟨e, he, rfl⟩ := List.mem_map.mp hd
    exact tp_fine (ev_atom (hk e he)) (by cases e <;> simp [Ev.vs])⟩
theorem tab_dp {H : Hp} {v : V} {es : List Ev} (h : IsTT H v es) (hk : ∀ e ∈ es, e.kok) : Dp K H v (tabD es) := by
  obtain ⟨a, xs, rfl, ha, hx⟩ := h
  exact .tup (SqT.of ha) (evs_dp hx hk)
theorem atom_listed : ∀ {x : V}, Atom x → listed (atomD x) = atomD x
  | .non, _ => by simp [atomD, listed]
  | .bl _, _ => by simp [atomD, listed]
  | .int _, _ => by simp [atomD, listed]
  | .str _, _ => by simp [atomD, listed]
theorem atom_inj : ∀ {x y : V}, Atom x → Atom y → atomD x = atomD y → x = y
  | .non, y, _, h, e => by cases y <;> first | exact (show False from h).elim | rfl | cases e
  | .bl _, y, _, h, e => by cases y <;> first | exact (show False from h).elim | (cases e; rfl) | cases e
  | .int _, y, _, h, e => by cases y <;> first | exact (show False from h).elim | (cases e; rfl) | cases e
  | .str _, y, _, h, e => by cases y <;> first | exact (show False from h).elim | (cases e; rfl) | cases e
theorem fr_atom {N : Addr → Prop} {H : Hp} {x y : V} {d : PyData} (h : Fr N H x d) (hy : Atom y) (e : d = atomD y) : x = y := by
  cases h with
  | at_ h => exact atom_inj h hy e
  | ls n h t => cases y <;> first | exact (show False from hy).elim | cases e
theorem fr_atoms {N : Addr → Prop} {H : Hp} : ∀ {xs ys : List V}, FrA N H xs (ys.map atomD) → (∀ y ∈ ys, Atom y) → xs = ys
  | _, [], h, _ => by cases h; rfl
  | _, y :: ys, h, q => by
    cases h with
    | cons h t => rw [fr_atom h (q y (by simp)) rfl, fr_atoms t fun z hz => q z (by simp [hz])]
theorem listed_ev {e : Ev} (h : e.kok) : listed (evD e) = .list (e.vs.map atomD) := by
  show PyData.list (listedA (e.vs.map atomD)) = _
  rw [listedA_map, List.map_map]
  congr 1
  exact List.map_congr_left fun x hx => atom_listed (ev_atom h x hx)
theorem fr_list {N : Addr → Prop} {H : Hp} {x : V} {ds : List PyData} (h : Fr N H x (.list ds)) : ∃ a xs, x = .ref a ∧ H a = some (.lst xs) ∧ FrA N H xs ds := by
  generalize hd : PyData.list ds = d at h
  cases h with
  | at_ h => cases x <;> first | exact (show False from h).elim | cases hd
  | ls n h t =>
    cases hd
    exact ⟨_, _, rfl, h, t⟩
theorem fr_rows {N : Addr → Prop} {H : Hp} : ∀ {xs : List V} {es : List Ev}, FrA N H xs ((es.map evD).map listed) → (∀ e ∈ es, e.kok) → Paired (RowQ K H) xs es
  | _, [], h, _ => by cases h; exact .nil
  | _, e :: es, h, q => by
    cases h with
    | cons h t =>
      rw [listed_ev (q e (by simp))] at h
      refine .cons ?_ (fr_rows t fun z hz => q z (by simp [hz]))
      obtain ⟨a, xs, e1, e2, e3⟩ := fr_list h
      exact ⟨a, e1, .inl (SqL.of (by rw [e2, fr_atoms e3 (ev_atom (q e (by simp)))]))⟩
theorem fr_tab {N : Addr → Prop} {H : Hp} {v : V} {es : List Ev} (h : Fr N H v (listed (tabD es))) (hk : ∀ e ∈ es, e.kok) : TabQ K H v es := by
  have h : Fr N H v (.list (listedA (es.map evD))) := h
  rw [listedA_map] at h
  obtain ⟨a, xs, e1, e2, e3⟩ := fr_list h
  exact ⟨a, xs, e1, .inl (SqL.of e2), fr_rows e3 hk⟩
theorem Fine.listed : ∀ {n : Nat} {d : PyData}, Fine n d → Fine n (listed d)
  | _, .none, h => h
  | _, .bool _, h => h
  | _, .int _, h => h
  | _, .str _, h => h
  | n + 1, .list ds, h => by
    show Fine (n + 1) (.list (listedA ds))
    rw [listedA_map]
    refine ⟨by rw [List.length_map]; exact h.1, fun d hd => ?_⟩
    obtain ⟨c, hc, rfl⟩ := List.mem_map.mp hd
    exact Fine.listed (h.2 c hc)
  | n + 1, .tuple ds, h => by
    show Fine (n + 1) (.list (listedA ds))
    rw [listedA_map]
    refine ⟨by rw [List.length_map]; exact h.1, fun d hd => ?_⟩
    obtain ⟨c, hc, rfl⟩ := List.mem_map.mp hd
    exact Fine.listed (h.2 c hc)
  | 0, .list _, h => h.elim
  | 0, .tuple _, h => h.elim
  | 0, .dict _, h => h.elim
  | n + 1, .dict _, h => h.elim
theorem pr_unmap {α β γ : Type} {F : α → γ → Prop} (f : β → γ) : ∀ {a : List α} {b : List β}, Paired F a (b.map f) → Paired (fun x y => F x (f y)) a b
  | _, [], h => by cases h; exact .nil
  | _, y :: b, h => by
    cases h with
    | cons h t => exact .cons h (pr_unmap f t)
theorem listed_tp {y : List V} (h : ∀ x ∈ y, Atom x) : listed (tpD y) = .list (y.map atomD) := by
  show PyData.list (listedA (y.map atomD)) = _
  rw [listedA_map, List.map_map]
  congr 1
  exact List.map_congr_left fun x hx => atom_listed (h x hx)
/-- a tuple of tuples of atoms, as data -/
def rwD (ys : List (List V)) : PyData := .tuple (ys.map tpD)
theorem rw_fine {ys : List (List V)} (h : ∀ y ∈ ys, ∀ x ∈ y, Atom x) (w : ∀ y ∈ ys, y.length ≤ 1000) (l : ys.length ≤ 1000) : Fine 2 (rwD ys) :=
  ⟨by rw [List.length_map]; exact l, fun d hd => by
    obtain ⟨y, hy, rfl⟩ := List.mem_map.mp hd
    exact tp_fine (h y hy) (w y hy)⟩
theorem rw_dp {H : Hp} {a : Addr} {xs : List V} {ys : List (List V)} (ha : H a = some (.tup xs)) (ht : Tps H xs ys) (h : ∀ y ∈ ys, ∀ x ∈ y, Atom x) : Dp K H (.ref a) (rwD ys) := .tup (SqT.of ha) (tps_dp ht h)
theorem fr_listN {N : Addr → Prop} {H : Hp} {x : V} {ds : List PyData} (h : Fr N H x (.list ds)) : ∃ a xs, x = .ref a ∧ N a ∧ H a = some (.lst xs) ∧ FrA N H xs ds := by
  generalize hd : PyData.list ds = d at h
  cases h with
  | at_ h => cases x <;> first | exact (show False from h).elim | cases hd
  | ls n h t =>
    cases hd
    exact ⟨_, _, rfl, n, h, t⟩
theorem fr_tps {N : Addr → Prop} {H : Hp} : ∀ {xs : List V} {ys : List (List V)}, FrA N H xs ((ys.map tpD).map listed) → (∀ y ∈ ys, ∀ x ∈ y, Atom x) → Paired (fun x y => ∃ c, x = .ref c ∧ H c = some (.lst y)) xs ys
  | _, [], h, _ => by cases h; exact .nil
  | _, y :: ys, h, q => by
    cases h with
    | cons h t =>
      rw [listed_tp (q y (by simp))] at h
      refine .cons ?_ (fr_tps t fun z hz => q z (by simp [hz]))
      obtain ⟨a, xs, e1, e2, e3⟩ := fr_list h
      exact ⟨a, e1, by rw [e2, fr_atoms e3 (q y (by simp))]⟩
theorem fr_rw {N : Addr → Prop} {H : Hp} {v : V} {ys : List (List V)} (h : Fr N H v (listed (rwD ys))) (hk : ∀ y ∈ ys, ∀ x ∈ y, Atom x) : ∃ a xs, v = .ref a ∧ N a ∧ H a = some (.lst xs) ∧ Paired (fun x y => ∃ c, x = .ref c ∧ H c = some (.lst y)) xs ys := by
  have h : Fr N H v (.list (listedA (ys.map tpD))) := h
  rw [listedA_map] at h
  obtain ⟨a, xs, e1, e2, e3, e4⟩ := fr_listN h
  exact ⟨a, xs, e1, e2, e3, fr_tps e4 hk⟩
abbrev swV (b : Int × Int) : List V := [.int b.1, .int b.2]
theorem sw_atom {bs : List (Int × Int)} : ∀ y ∈ bs.map swV, ∀ x ∈ y, Atom x := by
  intro y hy x hx
  obtain ⟨b, _, rfl⟩ := List.mem_map.mp hy
  simp only [List.mem_cons, List.not_mem_nil, or_false] at hx
  rcases hx with e | e <;> subst e <;> trivial
theorem sw_wide {bs : List (Int × Int)} : ∀ y ∈ bs.map swV, y.length ≤ 1000 := by
  intro y hy
  obtain ⟨b, _, rfl⟩ := List.mem_map.mp hy
  simp
theorem prq_fz {H : Hp} {a : Addr} {xs : List V} {bs : List (Int × Int)} (ha : FzT H a xs) (ht : Tps H xs (bs.map swV)) : PrQ K H (.ref a) bs := by
  obtain ⟨ob, h, _⟩ := ha
  exact ⟨a, xs, rfl, .inr (.inl (.inr ⟨ob, h⟩)), pr_unmap (F := fun x y => ∃ c, x = V.ref c ∧ Sq K H c y) swV (Paired.mono (fun _ _ ⟨c, e, z⟩ => ⟨c, e, .inr (SqT.of z)⟩) ht)⟩
theorem prq_lst {H : Hp} {a : Addr} {xs : List V} {bs : List (Int × Int)} (ha : H a = some (.lst xs)) (ht : Tps H xs (bs.map swV)) : PrQ K H (.ref a) bs :=
  ⟨a, xs, rfl, .inl (SqL.of ha), pr_unmap (F := fun x y => ∃ c, x = V.ref c ∧ Sq K H c y) swV (Paired.mono (fun _ _ ⟨c, e, z⟩ => ⟨c, e, .inr (SqT.of z)⟩) ht)⟩
theorem prq_fr {N : Addr → Prop} {H : Hp} {v : V} {bs : List (Int × Int)} (h : Fr N H v (listed (rwD (bs.map swV)))) : PrQ K H v bs := by
  obtain ⟨a, xs, e, _, h1, h2⟩ := fr_rw h sw_atom
  exact ⟨a, xs, e, .inl (SqL.of h1), pr_unmap (F := fun x y => ∃ c, x = V.ref c ∧ Sq K H c y) swV (Paired.mono (fun _ _ ⟨c, e, z⟩ => ⟨c, e, .inl (SqL.of z)⟩) h2)⟩
theorem fz_dp {H : Hp} {a : Addr} {xs : List V} {bs : List (Int × Int)} (ha : FzT H a xs) (ht : Tps H xs (bs.map swV)) : Dp K H (.ref a) (rwD (bs.map swV)) := by
  obtain ⟨ob, h, _⟩ := ha
  exact .tup (.inl (.inr ⟨ob, h⟩)) (tps_dp ht sw_atom)
theorem fr_rowsR {N : Addr → Prop} {H : Hp} : ∀ {xs : List V} {es : List Ev}, FrA N H xs ((es.map evD).map listed) → (∀ e ∈ es, e.kok) → Paired (RowR K H) xs es
  | _, [], h, _ => by cases h; exact .nil
  | _, e :: es, h, q => by
    cases h with
    | cons h t =>
      rw [listed_ev (q e (by simp))] at h
      refine .cons ?_ (fr_rowsR t fun z hz => q z (by simp [hz]))
      obtain ⟨a, xs, e1, e2, e3⟩ := fr_list h
      exact ⟨a, e1, .inl (SqL.of (by rw [e2, fr_atoms e3 (ev_atom (q e (by simp)))]))⟩
theorem tbr_fr {N : Addr → Prop} {H : Hp} {v : V} {es : List Ev} (h : Fr N H v (listed (tabD es))) (hk : ∀ e ∈ es, e.kok) : TbR K H v es := by
  have h : Fr N H v (.list (listedA (es.map evD))) := h
  rw [listedA_map] at h
  obtain ⟨a, xs, e1, e2, e3⟩ := fr_list h
  exact ⟨a, xs, e1, .inl (SqL.of e2), fr_rowsR e3 hk⟩
/-- no reads: the timetable itself -/
theorem st_fits {w : WS} {e : Ev} (f : w.fits e) : stE w e = e := by
  cases e with
  | read r u =>
    obtain ⟨p, f1, f2, f3⟩ := f
    have e : stE w (.read r u) = if fitsB w (.read r u) = true then .read r u else .wait := rfl
    rw [e, if_pos (by simp [fitsB, f1]; exact ⟨f2, f3⟩)]
  | _ => rfl
theorem wD_none {es : List Ev} (va : Valid .nil es) : ∀ i, i ≤ es.length → wD [] es i = es.take i
  | 0, _ => rfl
  | i + 1, hi => by
    have he : es[i]? = some (es[i]'(by omega)) := List.getElem?_eq_getElem _
    generalize es[i]'(by omega) = e at *
    rw [wD_succ he, wD_none va i (by omega), take_snoc he]
    have e1 : rdE [] i (WS.nil.run (es.take i)) e = e := rfl
    rw [e1, st_fits (valid_take va i he)]
def kvTwo {α : Type} : List α → List α → List α
  | [], [a, b] => [b, a]
  | _, _ => []
theorem kvTwo_rel {vs zs : List V} {us ws : List Value} (h : Vals vs us) (h' : Vals zs ws) : Vals (kvTwo vs zs) (kvTwo us ws) := by
  cases h with
  | cons _ _ => exact .nil
  | nil =>
    cases h' with
    | nil => exact .nil
    | cons a t =>
      cases t with
      | nil => exact .nil
      | cons b t =>
        cases t with
        | nil => exact .cons b (.cons a .nil)
        | cons _ _ => exact .nil

end
end PK
namespace PK
open PySem L2
section
variable {P : Program} {w : World} {K : PySem.W.Frag} {mg : Str → Option Value} {base : Heap}
abbrev s_law_right : Stmt := topS 20
abbrev N_law_right : List Str := ["_law_box_here", "_law_turn", "_law_table_here", "_law_again", "_law_some", "_law_due", "_law_soft", "_law_found"]
abbrev ps_law_right : List Str := ["_law_box_here"]
theorem sc_law_right : FnScope N_law_right ps_law_right (defScope s_law_right) := ⟨rfl, rfl, rfl, by decide +kernel, rfl, by decide +kernel, by decide +kernel⟩
def spRight : Sp := fun vs H Q _ => ∃ (b : Addr) (m : Nat), vs = [.ref b] ∧ Bx H b (m + 9000) ∧ ∀ H', Gr [b] H H' → Bx H' b m → Q (.bl true) H'
theorem has_right (D : Df K mg "_law_right" s_law_right ps_law_right) (T : Txt mg) (G_law_take : Has P w K mg base 1 "_law_take" ps_law_take spTake) (G_law_lagging : Has P w K mg base 2 "_law_lagging" ps_law_lagging spLagging) (G_law_waited : Has P w K mg base 5 "_law_waited" ps_law_waited spWaited)
    (G_law_some_reads : Has P w K mg base 3 "_law_some_reads" ps_law_some_reads spSome) (G_law_with : Has P w K mg base 2 "_law_with" ps_law_with spWith) (G_law_lists : Has P w K mg base 3 "_law_lists" ps_law_lists (spLists K 2)) (G_law_same : Has P w K mg base 4 "_law_same" ps_law_same (spSame K 3))
    (G_with_reads : Has P w K mg base 3 "with_reads" ps_with_reads (spWr K)) (KK_with_reads : HasK P w K mg base 3 "with_reads" ps_with_reads ["reads", "timetable"] (fun vs zs => kvTwo vs zs) (spWr K)) :
    Has P w K mg base 6 "_law_right" ps_law_right spRight := Has.mk' D fun f fd F => by
  refine F.ok sc_law_right (fun vs H Q E h => ?_) (fun cdv A outer s H vs Q E hr h => ?_)
  · obtain ⟨b, m, rfl, _⟩ := h
    rfl
  · obtain ⟨b, m, rfl, hb, q⟩ := h
    refine ⟨_, (pss_cons (ps_for PassesOwn.never rfl (pi_range1 (by rfl) T.m_range (pa_cons pe_int pa_nil)) (pg_name (i := 1) sc_law_right.nd rfl (Or.inl rfl))
  (pss_cons (ps_set (i := 2) sc_law_right.nd rfl (Or.inl rfl) (pe_callH G_law_lagging (hr.mono (by decide)) (by rfl) (pa_cons (pv 0) pa_nil)))
  (pss_cons (ps_if (pt_cmpR op_gt (pv 1) pe_int (nomark _))
    (pss_one (ps_set (i := 2) sc_law_right.nd rfl (Or.inl rfl) (pe_callH G_law_waited (hr.mono (by decide)) (by rfl) (pa_cons (pv 0) (pa_cons (pe_op op_add pe_int (pe_callH G_law_take (hr.mono (by decide)) (by rfl) (pa_cons (pv 0) (pa_cons pe_int pa_nil)))) (pa_cons pe_int (pa_cons (pe_op op_add pe_int (pe_callH G_law_take (hr.mono (by decide)) (by rfl) (pa_cons (pv 0) (pa_cons pe_int pa_nil)))) pa_nil)))))))
    pss_nil)
  (pss_cons (ps_for PassesOwn.never rfl (pi_range1 (by rfl) T.m_range (pa_cons pe_int pa_nil)) (pg_name (i := 3) sc_law_right.nd rfl (Or.inl rfl))
    (pss_cons (ps_set (i := 4) sc_law_right.nd rfl (Or.inl rfl) (pe_callH G_law_some_reads (hr.mono (by decide)) (by rfl) (pa_cons (pv 0) (pa_cons (pv 2) pa_nil))))
    (pss_cons (ps_par (i := 5) (j := 6) (by rfl) sc_law_right.nd rfl rfl (by decide) rfl rfl (pa_cons (pe_callH G_law_with (hr.mono (by decide)) (by rfl) (pa_cons (pv 2) (pa_cons (pv 4) pa_nil))) (pa_cons (pe_lst (pa_cons (pe_callH G_law_lists (hr.mono (by decide)) (by rfl) (pa_cons (pv 2) pa_nil)) (pa_cons (pe_callH G_law_lists (hr.mono (by decide)) (by rfl) (pa_cons (pv 4) pa_nil)) pa_nil))) pa_nil)) (by rfl))
    (pss_cons (ps_set (i := 7) sc_law_right.nd rfl (Or.inl rfl) (pe_lst (pa_cons (pe_callH G_with_reads (hr.mono (by decide)) (by rfl) (pa_cons (pv 2) (pa_cons (pv 4) pa_nil))) (pa_cons (pe_callH G_with_reads (hr.mono (by decide)) (by rfl) (pa_cons (pe_ix (ix_listK (K := K)) (pv 6) pe_int (fun _ _ => rfl)) (pa_cons (pe_ix (ix_listK (K := K)) (pv 6) pe_int (fun _ _ => rfl)) pa_nil))) pa_nil))))
    (pss_cons (ps_expr (pe_bm PySem.F.plainAttrs_list PySem.F.slot_list_append PySem.F.type_list_append mt_append (pv 7) (pa_cons (pe_callHK KK_with_reads (hr.mono (by decide)) (by rfl) (pk_cons (pe_callTy (call_list_ofK (K := K)) (by rfl) T.m_list (by decide +kernel) (pa_cons (pv 4) pa_nil)) (pk_cons (pv 2) pk_nil))) pa_nil)))
    (pss_one (ps_if (PW.pt (pw_or (pt_not (pt_val (pe_callH G_law_same (hr.mono (by decide)) (by rfl) (pa_cons (pv 7) (pa_cons (pe_op op_rep (pe_lst (pa_cons (pv 5) pa_nil)) pe_int) pa_nil))))) (pw_or1 (pt_cmpR (op_neDK (K := K) hr.units) (pv 6) (pe_lst (pa_cons (pe_callH G_law_lists (hr.mono (by decide)) (by rfl) (pa_cons (pv 2) pa_nil)) (pa_cons (pe_callH G_law_lists (hr.mono (by decide)) (by rfl) (pa_cons (pv 4) pa_nil)) pa_nil))) (nomark _)))))
      (pss_one (ps_ret pe_bl))
      pss_nil)))))))
  (pss_one (ps_if (pt_not (pt_val (pe_callH G_law_same (hr.mono (by decide)) (by rfl) (pa_cons (pe_callH G_with_reads (hr.mono (by decide)) (by rfl) (pa_cons (pv 2) (pa_cons (pe_tup pa_nil) pa_nil))) (pa_cons (pv 2) pa_nil)))))
    (pss_one (ps_ret pe_bl))
    pss_nil))))))
(pss_one (ps_ret pe_bl))), ?_⟩
    walk_at "w"
    refine ⟨by decide, by decide, lp_range (fun i σ' H' => ∃ y1 y2 y3 y4 y5 y6 y7, σ' = [some (.ref b), y1, y2, y3, y4, y5, y6, y7] ∧ Gr [b] H H' ∧ Bx H' b (m + 1000 * (3 - i)))
      ⟨none, none, none, none, none, none, none, rfl, Gr.refl _ _, hb.mono (by omega)⟩ ?_ ?_⟩
    · rintro i _ H1 hi ⟨y1, y2, y3, y4, y5, y6, y7, rfl, g1, hb1⟩
      have hi : i < 3 := hi
      walk_at "w"
      obtain ⟨M, eM⟩ : ∃ M, m + 1000 * (3 - (i + 1)) = M := ⟨_, rfl⟩
      rw [eM]
      refine ⟨b, M + 560, rfl, hb1.mono (by omega), fun v H2 es g2 hb2 tt2 va2 ok2 len2 => ?_⟩
      walk_at "w"
      refine WK.w_genS (t := tIfS _ _ _) (fun σ' H' => ∃ v es, σ' = [some (.ref b), some (.int (0 + (i : Nat))), some v, y3, y4, y5, y6, y7] ∧ Gr [b] H1 H' ∧ Bx H' b (M + 360) ∧ IsTT H' v es ∧ Valid .nil es ∧ (∀ e ∈ es, e.ok) ∧ es.length ≤ 60) ?_ (fun D' _ _ _ h0 => ?_)
      rotate_left
      · walk_at "i"
        refine ite2 (fun _ => ?_) (fun _ => ?_)
        · walk_at "w"
          refine use_take (n := M + 559) hb2 (by omega) (by omega) (fun r1 H3 r10 r16 g3 hb3 => ?_)
          walk_at "w"
          refine use_take (n := M + 558) hb3 (by omega) (by omega) (fun r2 H4 r20 r23 g4 hb4 => ?_)
          walk_at "w"
          refine ⟨b, M + 360, (8 + r1).toNat, 1 + r2, by rw [Int.toNat_of_nonneg (by omega)]; rfl, hb4.mono (by omega), by omega, by omega, by omega, fun v' H5 es' g5 hb5 tt5 va5 ok5 len5 => ?_⟩
          exact h0 _ _ ⟨v', es', rfl, ((g2.trans g3).trans g4).trans g5, hb5, tt5, va5, ok5, len5⟩
        · exact h0 _ _ ⟨v, es, rfl, g2, hb2.mono (by omega), tt2, va2, ok2, len2⟩
      · clear tt2 va2 ok2 len2 hb2 g2
        rintro _ H2 ⟨v, es, rfl, g2, hb2, tt2, va, ok, len⟩
        have kok : ∀ e ∈ es, e.kok := fun e he => Ev.ok_kok (ok e he)
        walk_at "w"
        refine ⟨by decide, by decide, lp_range (fun j σ' H' => ∃ y3 y4 y5 y6 y7, σ' = [some (.ref b), some (.int (0 + (i : Nat))), some v, y3, y4, y5, y6, y7] ∧ Gr [b] H2 H' ∧ Bx H' b (M + 120 * (3 - j)))
          ⟨_, _, _, _, _, rfl, Gr.refl _ _, hb2.mono (by omega)⟩ ?_ ?_⟩
        · rintro j _ H3 hj ⟨y3, y4, y5, y6, y7, rfl, g3, hb3⟩
          have hj : j < 3 := hj
          have tt3 := tt2.gr g3
          walk_at "w"
          refine ⟨b, M + 120 * (3 - (j + 1)), v, es, rfl, hb3.mono (by omega), tt3, va, len, fun t zs ps H4 g4 hb4 fz4 tp4 ro pl => ?_⟩
          have tt4 := tt3.gr g4
          walk_at "w"
          refine ⟨v, t, es, ps, zs, rfl, tt4, fz4, tp4, va, kok, ro, by omega, fun w1 H5 g5 wt5 => ?_⟩
          have wk := (wd_ok va kok ro es.length (Nat.le_refl _)).k
          have wl := (wd_ok va kok ro es.length (Nat.le_refl _)).l
          generalize eW : wD ps es es.length = W at *
          walk_at "w"
          refine ⟨v, tabD es, rfl, tab_dp (tt4.gr g5) kok, tab_fine kok (by omega), fun s0 H6 g6 fr0 => ?_⟩
          walk_at "w"
          refine ⟨.ref t, rwD (ps.map swV), rfl, fz_dp (fz4.gr (g5.trans g6)) (tp4.gr (g5.trans g6)), rw_fine sw_atom sw_wide (by rw [List.length_map]; omega), fun s1 H7 g7 fr1 => ?_⟩
          walk_at "w"
          refine ⟨WK.sz, fun so nso => ?_⟩
          have g8 : Gr [] H7 (upd H7 so (.lst [s0, s1])) := Gr.new nso
          have hso : (upd H7 so (.lst [s0, s1])) so = some (.lst [s0, s1]) := upd_same
          have g48 := ((g5.trans g6).trans g7).trans g8
          have TB0 : TbR K _ s0 es := ((tbr_fr (K := K) fr0 kok).gr g7).gr g8
          have PR1 : PrQ K _ s1 ps := (prq_fr (K := K) fr1).gr g8
          have D0 : Dp K _ s0 (listed (tabD es)) := dp_gr (g7.trans g8) _ fr0.dp
          have D1 : Dp K _ s1 (listed (rwD (ps.map swV))) := dp_gr g8 _ fr1.dp
          have wt8 := wt5.gr ((g6.trans g7).trans g8)
          have tt8 := tt4.gr g48
          have fz8 := fz4.gr g48
          have tp8 := tp4.gr g48
          have hb8 := hb4.keep g48 (by simp)
          have g38 := g4.trans (g48.mono (by simp))
          generalize (upd H7 so (.lst [s0, s1])) = H8 at *
          clear g5 g6 g7 g8 g48 wt5 tt4 fz4 tp4 hb4 fr0 fr1 nso
          walk_at "w"
          refine ⟨v, .ref t, es, ps, rfl, TbR.of_tt tt8, prq_fz fz8 tp8, va, kok, ro, by omega, by omega, fun u1 H9 g9 ut9 => ?_⟩
          rw [eW] at ut9
          have hso9 := g9.k0 hso
          walk_at "w"
          refine ⟨s0, s1, es, ps, rfl, TB0.gr g9, PR1.gr g9, va, kok, ro, by omega, by omega, fun u2 H10 g10 ut10 => ?_⟩
          rw [eW] at ut10
          walk_at "w"
          refine ⟨WK.sz, fun l nl => ?_⟩
          have g11 : Gr [] H10 (upd H10 l (.lst [u1, u2])) := Gr.new nl
          have hl : (upd H10 l (.lst [u1, u2])) l = some (.lst [u1, u2]) := upd_same
          generalize (upd H10 l (.lst [u1, u2])) = H11 at *
          have g811 := (g9.trans g10).trans g11
          walk_at "w"
          refine WK.w_tyL hl ?_
          refine WK.w_callK ?_
          walk_at "w"
          refine ⟨t, zs, rfl, .inr ?_, fun l2 nl2 => ?_⟩
          · obtain ⟨ob, z, _⟩ := fz8.gr g811
            exact .inl (.inr ⟨ob, z⟩)
          have g12 : Gr [] H11 (upd H11 l2 (.lst zs)) := Gr.new nl2
          have hl2 : (upd H11 l2 (.lst zs)) l2 = some (.lst zs) := upd_same
          generalize (upd H11 l2 (.lst zs)) = H12 at *
          walk_at "w"
          refine ⟨rfl, rfl, v, .ref l2, es, ps, rfl, TbR.of_tt (tt8.gr (g811.trans g12)), prq_lst hl2 (tp8.gr (g811.trans g12)), va, kok, ro, by omega, by omega, fun u3 H13 g13 ut13 => ?_⟩
          rw [eW] at ut13
          have hl13 := g13.k0 (g12.k0 hl)
          refine ⟨l, _, _, rfl, rfl, hl13, WK.sz' (by simp), ?_⟩
          have g14 : Gr [l] H13 (upd H13 l (.lst ([u1, u2] ++ [u3]))) := Gr.mutL hl13 (by simp)
          have hl14 : (upd H13 l (.lst ([u1, u2] ++ [u3]))) l = some (.lst ([u1, u2] ++ [u3])) := upd_same
          generalize (upd H13 l (.lst ([u1, u2] ++ [u3]))) = H14 at *
          have g1014 : Gr [] H10 H14 := ((g11.trans g12).trans g13).own g14 nl
          have g814 := (g9.trans g10).trans g1014
          have ut1 := (ut9.gr g10).gr g1014
          have ut2 := ut10.gr g1014
          have ut3 := ut13.gr g14
          have wt14 := wt8.gr g814
          have hso14 := g814.k0 hso
          have D014 := dp_gr g814 _ D0
          have D114 := dp_gr g814 _ D1
          have tt14 := tt8.gr g814
          have fz14 := fz8.gr g814
          have tp14 := tp8.gr g814
          have hb14 := hb8.keep g814 (by simp)
          have g314 := g38.trans (g814.mono (by simp))
          clear g9 g10 g11 g12 g13 g14 g811 g814 g1014 ut9 ut10 ut13 wt8 hso hso9 D0 D1 tt8 fz8 tp8 hb8 hl hl2 hl13 nl nl2 TB0 PR1 g38
          walk_at "w"
          walk_at "i"
          walk_at "i"
          refine ⟨WK.sz, fun l3 nl3 => ?_⟩
          have g1' : Gr [] H14 (upd H14 l3 (.lst [w1])) := Gr.new nl3
          have hl3 : (upd H14 l3 (.lst [w1])) l3 = some (.lst [w1]) := upd_same
          generalize (upd H14 l3 (.lst [w1])) = H15 at *
          walk_at "w"
          refine ⟨l3, 3, _, rfl, rfl, hl3, by decide, by decide, (by show 1 * (3 : Int).toNat ≤ sizeLine; decide), fun l4 nl4 => ?_⟩
          have g2' : Gr [] H15 (upd H15 l4 (.lst (List.replicate (3 : Int).toNat [w1]).flatten)) := Gr.new nl4
          have hl4 : (upd H15 l4 (.lst (List.replicate (3 : Int).toNat [w1]).flatten)) l4 = some (.lst [w1, w1, w1]) := upd_same
          generalize (upd H15 l4 (.lst (List.replicate (3 : Int).toNat [w1]).flatten)) = H16 at *
          have g1416 := g1'.trans g2'
          walk_at "w"
          have tdd : ∀ {x : V}, IsTT H14 x W → Dp K H16 x (tabD W) := fun h => tab_dp (h.gr g1416) wk
          have tf : Fine 2 (tabD W) := tab_fine wk (by omega)
          refine ⟨_, _, .list [tabD W, tabD W, tabD W], rfl, .lst (SqL.of (g1416.k0 hl14)) (.cons (tdd ut1) (.cons (tdd ut2) (.cons (tdd ut3) .nil))), .lst (SqL.of hl4) (.cons (tdd wt14) (.cons (tdd wt14) (.cons (tdd wt14) .nil))), ⟨by simp, fun d hd => ?_⟩, by decide, fun H17 g17 => ?_⟩
          · simp only [List.mem_cons, List.not_mem_nil, or_false] at hd
            rcases hd with e | e | e <;> subst e <;> exact tf
          have g1417 := g1416.trans g17
          walk_at "w"
          refine WK.w_ifN (by decide) ?_
          walk_at "w"
          refine ⟨v, tabD es, rfl, tab_dp (tt14.gr g1417) kok, tab_fine kok (by omega), fun s2 H18 g18 fr2 => ?_⟩
          walk_at "w"
          refine ⟨.ref t, rwD (ps.map swV), rfl, fz_dp ((fz14.gr g1417).gr g18) ((tp14.gr g1417).gr g18), rw_fine sw_atom sw_wide (by rw [List.length_map]; omega), fun s3 H19 g19 fr3 => ?_⟩
          walk_at "w"
          refine ⟨WK.sz, fun so2 nso2 => ?_⟩
          have g20 : Gr [] H19 (upd H19 so2 (.lst [s2, s3])) := Gr.new nso2
          have hso2 : (upd H19 so2 (.lst [s2, s3])) so2 = some (.lst [s2, s3]) := upd_same
          generalize (upd H19 so2 (.lst [s2, s3])) = H20 at *
          have g1420 := ((g1417.trans g18).trans g19).trans g20
          walk_at "w"
          refine w_neSelf (d := .list [listed (tabD es), listed (rwD (ps.map swV))]) (n := 3) (.lst (SqL.of (g1420.k0 hso14)) (.cons (dp_gr g1420 _ D014) (.cons (dp_gr g1420 _ D114) .nil))) (.lst (SqL.of hso2) (.cons (dp_gr (g19.trans g20) _ fr2.dp) (.cons (dp_gr g20 _ fr3.dp) .nil))) ⟨by simp, fun d hd => ?_⟩ (by decide) ?_
          · simp only [List.mem_cons, List.not_mem_nil, or_false] at hd
            rcases hd with e | e <;> subst e
            · exact Fine.listed (tab_fine kok (by omega))
            · exact Fine.listed (rw_fine sw_atom sw_wide (by rw [List.length_map]; omega))
          walk_at "w"
          refine WK.w_ifN (by decide) ?_
          walk_at "w"
          exact ⟨_, _, _, _, _, rfl, g3.trans (g314.trans (g1420.mono (by simp))), hb14.keep g1420 (by simp)⟩
        · rintro σ3 H3 ⟨y3, y4, y5, y6, y7, rfl, g3, hb3⟩
          have tt3 := tt2.gr g3
          walk_at "w"
          walk_at "i"
          refine ⟨WK.sz, fun e0 ne0 => ?_⟩
          have g4 : Gr [] H3 (upd H3 e0 (.tup [])) := Gr.new ne0
          have he0 : (upd H3 e0 (.tup [])) e0 = some (.tup []) := upd_same
          generalize (upd H3 e0 (.tup [])) = H4 at *
          walk_at "w"
          refine ⟨v, .ref e0, es, [], rfl, TbR.of_tt (tt3.gr g4), ⟨e0, [], rfl, .inr (SqT.of he0), .nil⟩, va, kok, ⟨by simp, by simp⟩, by omega, by simp, fun w1 H5 g5 wt5 => ?_⟩
          rw [wD_none va es.length (Nat.le_refl _), List.take_length] at wt5
          walk_at "w"
          refine ⟨_, _, tabD es, rfl, tab_dp wt5 kok, tab_dp ((tt3.gr g4).gr g5) kok, (tab_fine kok (by omega)).up, by decide, fun H6 g6 => ?_⟩
          walk_at "w"
          refine WK.w_ifN (by decide) ?_
          walk_at "w"
          have g36 := (g4.trans g5).trans g6
          refine ⟨_, _, _, _, _, _, _, rfl, ((g1.trans g2).trans g3).trans (g36.mono (by simp)), ?_⟩
          exact (hb3.keep g36 (by simp)).mono (by omega)
    · rintro σ2 H2 ⟨y1, y2, y3, y4, y5, y6, y7, rfl, g2, hb2⟩
      walk_at "w"
      exact q _ g2 (hb2.mono (by omega))

end
end PK
namespace PK
open PySem L2
section
variable {P : Program} {w : World} {K : PySem.W.Frag} {mg : Str → Option Value} {base : Heap}
abbrev s_law : Stmt := topS 21
abbrev N_law : List Str := ["_law_script", "_law_lap"]
abbrev ps_law : List Str := ["_law_script"]
theorem sc_law : FnScope N_law ps_law (defScope s_law) := ⟨rfl, rfl, rfl, by decide +kernel, rfl, by decide +kernel, by decide +kernel⟩
def spLaw (K : PySem.W.Frag) : Sp := fun vs H Q _ => ∃ (a : Addr) (ns : List Int), vs = [.ref a] ∧ SqL K H a (ns.map V.int) ∧ ns.length ≤ 63 ∧ ∀ H', Q (.bl true) H'
theorem ok_law {f : Addr} {fd : FuncData} (F : Fun K "law" "law" s_law f fd) (T : Txt mg) (G_law_box : Has P w K mg base 1 "_law_box" ps_law_box (spBox K)) (G_law_right : Has P w K mg base 6 "_law_right" ps_law_right spRight) : FnOk P w K mg base CX0 7 f fd ps_law (spLaw K) := by
  refine F.ok sc_law (fun vs H Q E h => ?_) (fun cdv A outer s H vs Q E hr h => ?_)
  · obtain ⟨a, ns, rfl, _⟩ := h
    rfl
  · obtain ⟨a, ns, rfl, ha, hl, q⟩ := h
    refine ⟨_, (pss_one (ps_ret (pe_callB (cr_allK (K := K) rfl) (by rfl) T.m_all (by decide +kernel) (pa_cons (pe_lc (own := [("_law_lap", 1)]) (g := gName 1)  rfl sc_law.nd (pi_range1 (by rfl) T.m_range (pa_cons (pe_op op_add pe_int (pe_callB (call_min2 rfl) (by rfl) T.m_min (by decide +kernel) (pa_cons pe_int (pa_cons (pe_callB (call_len_seqK (K := K)) (by rfl) T.m_len (by decide +kernel) (pa_cons (pv 0) pa_nil)) pa_nil)))) pa_nil)) (blkOk_by (own := [("_law_lap", 1)]) (N := N_law) (sc := defScope s_law) (by decide +kernel)) (fun _ _ _ _ _ => pg_name (i := 1) sc_law.nd rfl (Or.inl rfl)) (fun _ _ _ _ _ => pts_nil) (fun _ _ _ _ _ => (pe_callH G_law_right (hr.mono (by decide)) (by rfl) (pa_cons (pe_callH G_law_box (hr.mono (by decide)) (by rfl) (pa_cons (pv 0) (pa_cons (pv 1) pa_nil))) pa_nil)))) pa_nil)))), ?_⟩
    walk_at "w"
    refine ⟨a, _, rfl, .inl ha, ?_⟩
    rw [List.length_map]
    walk_at "w"
    have hj : 0 ≤ (1 + if ((ns.length : Nat) : Int) < 2 then ((ns.length : Nat) : Int) else 2) ∧ (1 + if ((ns.length : Nat) : Int) < 2 then ((ns.length : Nat) : Int) else 2) ≤ 3 := by
      split <;> omega
    generalize (1 + if ((ns.length : Nat) : Int) < 2 then ((ns.length : Nat) : Int) else 2) = j at *
    refine ⟨by omega, by omega, ?_⟩
    refine lc_go (walk_range (lo := 0) (n := j.toNat)) (fun D i acc H' => Gr [] H H' ∧ acc = (List.replicate i true).map V.bl) (fun D nD => ⟨Gr.new nD, rfl⟩) (fun _ _ _ _ _ _ => trivial) ?_ ?_
    · rintro D i ac x H2 H3 nD hi hD la ⟨g2, rfl⟩ ⟨rfl, rfl⟩
      walk_at "w"
      refine ⟨rfl, ?_⟩
      walk_at "w"
      refine WK.w_ifP rfl ?_
      walk_at "w"
      rw [Int.zero_add]
      refine ⟨a, ns, i, rfl, sqL_gr g2 (by simp) ha, hl, by omega, fun b H4 nb g4 hb => ?_⟩
      walk_at "w"
      refine ⟨b, 891000, rfl, hb, fun H5 g5 hb5 => ?_⟩
      dsimp only
      have bD : D ≠ b := fun e => by
        rw [← e, hD] at nb
        cases nb
      have hD5 := g5.k1 (g4.k0 hD) bD
      have g35 : Gr [] H3 H5 := g4.own g5 nb
      refine lc_yes hD5 la (by omega) ⟨(g2.trans g35).own (Gr.mutL hD5 (by simp)) nD, ?_⟩
      rw [List.replicate_succ', List.map_append]
      rfl
    · rintro D ac H2 nD hD la ⟨g2, rfl⟩
      walk_at "w"
      refine ⟨D, _, rfl, SqL.of hD, ?_⟩
      rw [List.all_replicate, show (if j.toNat = 0 then true else id true) = true from by split <;> rfl]
      exact q _

end
end PK
namespace PK
open PySem PySem.Spec PyProof.Rows L2
section
variable {K : PySem.W.Frag} {mg : Str → Option Value}
theorem df_of {h : Heap} {x : Str} {st : Stmt} {f : Addr} {ps : List Str} {od an : Option Addr} {sl : Array (Option Value)} {oc kV dc pm cd ct : Value} (X : K.In h) (G : h.Ns mainGlobals mg) (a : PySem.W.nsIn K mainGlobals x = some (some (.ref f))) (l : K.lookup f = some ⟨oc, od, .func (PySem.W.fnOf x x (defArgs st) (defBody st) (defScope st) .none kV dc pm an cd ct), sl⟩)
    (c : PySem.W.codeIn K cd x = true) (k : PySem.W.keepIn K (.ref f) = true) (b : ∀ (kV dc pm : Value) (an : Option Addr) (cd ct : Value) (us : List Value), us.length = ps.length → bindArgs (PySem.W.fnOf x x (defArgs st) (defBody st) (defScope st) .none kV dc pm an cd ct) ⟨us, []⟩ = pure (ps.zip us)) : Df K mg x st ps :=
  ⟨f, _, fun_mk l c k, PySem.W.mg_of X G a, (fun_mk l c k).binds b⟩
theorem df1_of {h : Heap} {x p : Str} {st : Stmt} {f : Addr} {od an : Option Addr} {sl : Array (Option Value)} {oc kV dc pm cd ct : Value} (X : K.In h) (G : h.Ns mainGlobals mg) (a : PySem.W.nsIn K mainGlobals x = some (some (.ref f))) (l : K.lookup f = some ⟨oc, od, .func (PySem.W.fnOf x x (defArgs st) (defBody st) (defScope st) .none kV dc pm an cd ct), sl⟩)
    (c : PySem.W.codeIn K cd x = true) (k : PySem.W.keepIn K (.ref f) = true) (b : ∀ (kV dc pm : Value) (an : Option Addr) (cd ct : Value) (us : List Value), us.length = 1 → bindArgs (PySem.W.fnOf x x (defArgs st) (defBody st) (defScope st) .none kV dc pm an cd ct) ⟨us, []⟩ = pure ([p].zip us))
    (e : ∀ u : Value, bindArgs (PySem.W.fnOf x x (defArgs st) (defBody st) (defScope st) .none kV dc pm an cd ct) ⟨[], [(p, u)]⟩ = pure [(p, u)]) : Df1 K mg x st [p] :=
  ⟨f, _, fun_mk l c k, PySem.W.mg_of X G a, (fun_mk l c k).binds b, ⟨fun s us ws _ hl => by
    match us, ws, hl with
    | [], [u], _ => exact .of_eq (e u), fun h h' => kv1_rel h h'⟩⟩
theorem kb_two {kV dc pm cd ct : Value} {an : Option Addr} : KBn K (PySem.W.fnOf "with_reads" "with_reads" (defArgs s_with_reads) (defBody s_with_reads) (defScope s_with_reads) .none kV dc pm an cd ct) ps_with_reads 0 ["reads", "timetable"] kvTwo kvTwo :=
  ⟨fun s us ws _ h1 h2 => match us, ws, h1, h2 with
    | [], [_, _], _, _ => .of_eq rfl, kvTwo_rel⟩
end
theorem all_mk {l : PySem.W.OpenLaw} {w : World} {K : PySem.W.Frag} {h : Heap} {mg : Str → Option Value} {fa : Addr} (X : K.In h) (G : h.Ns mainGlobals mg) (hfa : mg "law" = some (.ref fa))
    {C_Walk : Addr} (aC_Walk : PySem.W.nsIn K mainGlobals "Walk" = some (some (.ref C_Walk))) (pg_Walk : PySem.W.plainGet K C_Walk Str.empty = true) (hd_Walk : PySem.W.hasDictIn K C_Walk = true) (po_Walk : PySem.W.plainOver K C_Walk = true) (sa_Walk : PySem.W.findIn K (.ref C_Walk) "__setattr__" = some (some (.builtin "object.__setattr__"))) (mk_Walk : PySem.W.makesIn K C_Walk = true) (kc_Walk : PySem.W.keepIn K (.ref C_Walk) = true) (n0_Walk : PySem.W.findIn K (.ref C_Walk) "seats" = some none) (n1_Walk : PySem.W.findIn K (.ref C_Walk) "saved" = some none) (n2_Walk : PySem.W.findIn K (.ref C_Walk) "total" = some none)
    {f0 : Addr} {od0 an0 : Option Addr} {sl0 : Array (Option Value)} {oc0 kV0 dc0 pm0 cd0 ct0 : Value} (a0 : PySem.W.findIn K (.ref C_Walk) "__init__" = some (some (.ref f0))) (i0 : PySem.W.isFn K (.ref f0) = true) (l0 : K.lookup f0 = some ⟨oc0, od0, .func (PySem.W.fnOf "__init__" "Walk.__init__" (defArgs s_Walk___init__) (defBody s_Walk___init__) (defScope s_Walk___init__) .none kV0 dc0 pm0 an0 cd0 ct0), sl0⟩) (c0 : PySem.W.codeIn K cd0 "Walk.__init__" = true) (k0 : PySem.W.keepIn K (.ref f0) = true)
    {f1 : Addr} {od1 an1 : Option Addr} {sl1 : Array (Option Value)} {oc1 kV1 dc1 pm1 cd1 ct1 : Value} (a1 : PySem.W.findIn K (.ref C_Walk) "fits" = some (some (.ref f1))) (i1 : PySem.W.isFn K (.ref f1) = true) (l1 : K.lookup f1 = some ⟨oc1, od1, .func (PySem.W.fnOf "fits" "Walk.fits" (defArgs s_Walk_fits) (defBody s_Walk_fits) (defScope s_Walk_fits) .none kV1 dc1 pm1 an1 cd1 ct1), sl1⟩) (c1 : PySem.W.codeIn K cd1 "Walk.fits" = true) (k1 : PySem.W.keepIn K (.ref f1) = true)
    {f2 : Addr} {od2 an2 : Option Addr} {sl2 : Array (Option Value)} {oc2 kV2 dc2 pm2 cd2 ct2 : Value} (a2 : PySem.W.findIn K (.ref C_Walk) "step" = some (some (.ref f2))) (i2 : PySem.W.isFn K (.ref f2) = true) (l2 : K.lookup f2 = some ⟨oc2, od2, .func (PySem.W.fnOf "step" "Walk.step" (defArgs s_Walk_step) (defBody s_Walk_step) (defScope s_Walk_step) .none kV2 dc2 pm2 an2 cd2 ct2), sl2⟩) (c2 : PySem.W.codeIn K cd2 "Walk.step" = true) (k2 : PySem.W.keepIn K (.ref f2) = true)
    {f3 : Addr} {od3 an3 : Option Addr} {sl3 : Array (Option Value)} {oc3 kV3 dc3 pm3 cd3 ct3 : Value} (a3 : PySem.W.nsIn K mainGlobals "with_reads" = some (some (.ref f3))) (l3 : K.lookup f3 = some ⟨oc3, od3, .func (PySem.W.fnOf "with_reads" "with_reads" (defArgs s_with_reads) (defBody s_with_reads) (defScope s_with_reads) .none kV3 dc3 pm3 an3 cd3 ct3), sl3⟩) (c3 : PySem.W.codeIn K cd3 "with_reads" = true) (k3 : PySem.W.keepIn K (.ref f3) = true)
    {f4 : Addr} {od4 an4 : Option Addr} {sl4 : Array (Option Value)} {oc4 kV4 dc4 pm4 cd4 ct4 : Value} (a4 : PySem.W.nsIn K mainGlobals "_law_box" = some (some (.ref f4))) (l4 : K.lookup f4 = some ⟨oc4, od4, .func (PySem.W.fnOf "_law_box" "_law_box" (defArgs s_law_box) (defBody s_law_box) (defScope s_law_box) .none kV4 dc4 pm4 an4 cd4 ct4), sl4⟩) (c4 : PySem.W.codeIn K cd4 "_law_box" = true) (k4 : PySem.W.keepIn K (.ref f4) = true)
    {f5 : Addr} {od5 an5 : Option Addr} {sl5 : Array (Option Value)} {oc5 kV5 dc5 pm5 cd5 ct5 : Value} (a5 : PySem.W.nsIn K mainGlobals "_law_take" = some (some (.ref f5))) (l5 : K.lookup f5 = some ⟨oc5, od5, .func (PySem.W.fnOf "_law_take" "_law_take" (defArgs s_law_take) (defBody s_law_take) (defScope s_law_take) .none kV5 dc5 pm5 an5 cd5 ct5), sl5⟩) (c5 : PySem.W.codeIn K cd5 "_law_take" = true) (k5 : PySem.W.keepIn K (.ref f5) = true)
    {f6 : Addr} {od6 an6 : Option Addr} {sl6 : Array (Option Value)} {oc6 kV6 dc6 pm6 cd6 ct6 : Value} (a6 : PySem.W.nsIn K mainGlobals "_law_of" = some (some (.ref f6))) (l6 : K.lookup f6 = some ⟨oc6, od6, .func (PySem.W.fnOf "_law_of" "_law_of" (defArgs s_law_of) (defBody s_law_of) (defScope s_law_of) .none kV6 dc6 pm6 an6 cd6 ct6), sl6⟩) (c6 : PySem.W.codeIn K cd6 "_law_of" = true) (k6 : PySem.W.keepIn K (.ref f6) = true)
    {f7 : Addr} {od7 an7 : Option Addr} {sl7 : Array (Option Value)} {oc7 kV7 dc7 pm7 cd7 ct7 : Value} (a7 : PySem.W.nsIn K mainGlobals "_law_same" = some (some (.ref f7))) (l7 : K.lookup f7 = some ⟨oc7, od7, .func (PySem.W.fnOf "_law_same" "_law_same" (defArgs s_law_same) (defBody s_law_same) (defScope s_law_same) .none kV7 dc7 pm7 an7 cd7 ct7), sl7⟩) (c7 : PySem.W.codeIn K cd7 "_law_same" = true) (k7 : PySem.W.keepIn K (.ref f7) = true)
    {f8 : Addr} {od8 an8 : Option Addr} {sl8 : Array (Option Value)} {oc8 kV8 dc8 pm8 cd8 ct8 : Value} (a8 : PySem.W.nsIn K mainGlobals "_law_lists" = some (some (.ref f8))) (l8 : K.lookup f8 = some ⟨oc8, od8, .func (PySem.W.fnOf "_law_lists" "_law_lists" (defArgs s_law_lists) (defBody s_law_lists) (defScope s_law_lists) .none kV8 dc8 pm8 an8 cd8 ct8), sl8⟩) (c8 : PySem.W.codeIn K cd8 "_law_lists" = true) (k8 : PySem.W.keepIn K (.ref f8) = true)
    {f9 : Addr} {od9 an9 : Option Addr} {sl9 : Array (Option Value)} {oc9 kV9 dc9 pm9 cd9 ct9 : Value} (a9 : PySem.W.nsIn K mainGlobals "_law_event" = some (some (.ref f9))) (l9 : K.lookup f9 = some ⟨oc9, od9, .func (PySem.W.fnOf "_law_event" "_law_event" (defArgs s_law_event) (defBody s_law_event) (defScope s_law_event) .none kV9 dc9 pm9 an9 cd9 ct9), sl9⟩) (c9 : PySem.W.codeIn K cd9 "_law_event" = true) (k9 : PySem.W.keepIn K (.ref f9) = true)
    {f10 : Addr} {od10 an10 : Option Addr} {sl10 : Array (Option Value)} {oc10 kV10 dc10 pm10 cd10 ct10 : Value} (a10 : PySem.W.nsIn K mainGlobals "_law_moved" = some (some (.ref f10))) (l10 : K.lookup f10 = some ⟨oc10, od10, .func (PySem.W.fnOf "_law_moved" "_law_moved" (defArgs s_law_moved) (defBody s_law_moved) (defScope s_law_moved) .none kV10 dc10 pm10 an10 cd10 ct10), sl10⟩) (c10 : PySem.W.codeIn K cd10 "_law_moved" = true) (k10 : PySem.W.keepIn K (.ref f10) = true)
    {f11 : Addr} {od11 an11 : Option Addr} {sl11 : Array (Option Value)} {oc11 kV11 dc11 pm11 cd11 ct11 : Value} (a11 : PySem.W.nsIn K mainGlobals "_law_table" = some (some (.ref f11))) (l11 : K.lookup f11 = some ⟨oc11, od11, .func (PySem.W.fnOf "_law_table" "_law_table" (defArgs s_law_table) (defBody s_law_table) (defScope s_law_table) .none kV11 dc11 pm11 an11 cd11 ct11), sl11⟩) (c11 : PySem.W.codeIn K cd11 "_law_table" = true) (k11 : PySem.W.keepIn K (.ref f11) = true)
    {f12 : Addr} {od12 an12 : Option Addr} {sl12 : Array (Option Value)} {oc12 kV12 dc12 pm12 cd12 ct12 : Value} (a12 : PySem.W.nsIn K mainGlobals "_law_ended" = some (some (.ref f12))) (l12 : K.lookup f12 = some ⟨oc12, od12, .func (PySem.W.fnOf "_law_ended" "_law_ended" (defArgs s_law_ended) (defBody s_law_ended) (defScope s_law_ended) .none kV12 dc12 pm12 an12 cd12 ct12), sl12⟩) (c12 : PySem.W.codeIn K cd12 "_law_ended" = true) (k12 : PySem.W.keepIn K (.ref f12) = true)
    {f13 : Addr} {od13 an13 : Option Addr} {sl13 : Array (Option Value)} {oc13 kV13 dc13 pm13 cd13 ct13 : Value} (a13 : PySem.W.nsIn K mainGlobals "_law_start" = some (some (.ref f13))) (l13 : K.lookup f13 = some ⟨oc13, od13, .func (PySem.W.fnOf "_law_start" "_law_start" (defArgs s_law_start) (defBody s_law_start) (defScope s_law_start) .none kV13 dc13 pm13 an13 cd13 ct13), sl13⟩) (c13 : PySem.W.codeIn K cd13 "_law_start" = true) (k13 : PySem.W.keepIn K (.ref f13) = true)
    {f14 : Addr} {od14 an14 : Option Addr} {sl14 : Array (Option Value)} {oc14 kV14 dc14 pm14 cd14 ct14 : Value} (a14 : PySem.W.nsIn K mainGlobals "_law_with" = some (some (.ref f14))) (l14 : K.lookup f14 = some ⟨oc14, od14, .func (PySem.W.fnOf "_law_with" "_law_with" (defArgs s_law_with) (defBody s_law_with) (defScope s_law_with) .none kV14 dc14 pm14 an14 cd14 ct14), sl14⟩) (c14 : PySem.W.codeIn K cd14 "_law_with" = true) (k14 : PySem.W.keepIn K (.ref f14) = true)
    {f15 : Addr} {od15 an15 : Option Addr} {sl15 : Array (Option Value)} {oc15 kV15 dc15 pm15 cd15 ct15 : Value} (a15 : PySem.W.nsIn K mainGlobals "_law_free" = some (some (.ref f15))) (l15 : K.lookup f15 = some ⟨oc15, od15, .func (PySem.W.fnOf "_law_free" "_law_free" (defArgs s_law_free) (defBody s_law_free) (defScope s_law_free) .none kV15 dc15 pm15 an15 cd15 ct15), sl15⟩) (c15 : PySem.W.codeIn K cd15 "_law_free" = true) (k15 : PySem.W.keepIn K (.ref f15) = true)
    {f16 : Addr} {od16 an16 : Option Addr} {sl16 : Array (Option Value)} {oc16 kV16 dc16 pm16 cd16 ct16 : Value} (a16 : PySem.W.nsIn K mainGlobals "_law_waited" = some (some (.ref f16))) (l16 : K.lookup f16 = some ⟨oc16, od16, .func (PySem.W.fnOf "_law_waited" "_law_waited" (defArgs s_law_waited) (defBody s_law_waited) (defScope s_law_waited) .none kV16 dc16 pm16 an16 cd16 ct16), sl16⟩) (c16 : PySem.W.codeIn K cd16 "_law_waited" = true) (k16 : PySem.W.keepIn K (.ref f16) = true)
    {f17 : Addr} {od17 an17 : Option Addr} {sl17 : Array (Option Value)} {oc17 kV17 dc17 pm17 cd17 ct17 : Value} (a17 : PySem.W.nsIn K mainGlobals "_law_lagging" = some (some (.ref f17))) (l17 : K.lookup f17 = some ⟨oc17, od17, .func (PySem.W.fnOf "_law_lagging" "_law_lagging" (defArgs s_law_lagging) (defBody s_law_lagging) (defScope s_law_lagging) .none kV17 dc17 pm17 an17 cd17 ct17), sl17⟩) (c17 : PySem.W.codeIn K cd17 "_law_lagging" = true) (k17 : PySem.W.keepIn K (.ref f17) = true)
    {f18 : Addr} {od18 an18 : Option Addr} {sl18 : Array (Option Value)} {oc18 kV18 dc18 pm18 cd18 ct18 : Value} (a18 : PySem.W.nsIn K mainGlobals "_law_some_reads" = some (some (.ref f18))) (l18 : K.lookup f18 = some ⟨oc18, od18, .func (PySem.W.fnOf "_law_some_reads" "_law_some_reads" (defArgs s_law_some_reads) (defBody s_law_some_reads) (defScope s_law_some_reads) .none kV18 dc18 pm18 an18 cd18 ct18), sl18⟩) (c18 : PySem.W.codeIn K cd18 "_law_some_reads" = true) (k18 : PySem.W.keepIn K (.ref f18) = true)
    {f19 : Addr} {od19 an19 : Option Addr} {sl19 : Array (Option Value)} {oc19 kV19 dc19 pm19 cd19 ct19 : Value} (a19 : PySem.W.nsIn K mainGlobals "_law_right" = some (some (.ref f19))) (l19 : K.lookup f19 = some ⟨oc19, od19, .func (PySem.W.fnOf "_law_right" "_law_right" (defArgs s_law_right) (defBody s_law_right) (defScope s_law_right) .none kV19 dc19 pm19 an19 cd19 ct19), sl19⟩) (c19 : PySem.W.codeIn K cd19 "_law_right" = true) (k19 : PySem.W.keepIn K (.ref f19) = true)
    {f20 : Addr} {od20 an20 : Option Addr} {sl20 : Array (Option Value)} {oc20 kV20 dc20 pm20 cd20 ct20 : Value} (a20 : PySem.W.nsIn K mainGlobals "law" = some (some (.ref f20))) (l20 : K.lookup f20 = some ⟨oc20, od20, .func (PySem.W.fnOf "law" "law" (defArgs s_law) (defBody s_law) (defScope s_law) .none kV20 dc20 pm20 an20 cd20 ct20), sl20⟩) (c20 : PySem.W.codeIn K cd20 "law" = true) (k20 : PySem.W.keepIn K (.ref f20) = true)
    (z0 : PySem.W.nsIn K mainGlobals "abs" = some none) (z1 : PySem.W.nsIn K mainGlobals "all" = some none) (z2 : PySem.W.nsIn K mainGlobals "any" = some none) (z3 : PySem.W.nsIn K mainGlobals "bool" = some none) (z4 : PySem.W.nsIn K mainGlobals "dict" = some none) (z5 : PySem.W.nsIn K mainGlobals "enumerate" = some none) (z6 : PySem.W.nsIn K mainGlobals "int" = some none) (z7 : PySem.W.nsIn K mainGlobals "isinstance" = some none) (z8 : PySem.W.nsIn K mainGlobals "len" = some none) (z9 : PySem.W.nsIn K mainGlobals "list" = some none) (z10 : PySem.W.nsIn K mainGlobals "max" = some none) (z11 : PySem.W.nsIn K mainGlobals "min" = some none) (z12 : PySem.W.nsIn K mainGlobals "range" = some none) (z13 : PySem.W.nsIn K mainGlobals "set" = some none) (z14 : PySem.W.nsIn K mainGlobals "sorted" = some none) (z15 : PySem.W.nsIn K mainGlobals "str" = some none) (z16 : PySem.W.nsIn K mainGlobals "sum" = some none) (z17 : PySem.W.nsIn K mainGlobals "tuple" = some none) (z18 : PySem.W.nsIn K mainGlobals "zip" = some none) :
    ∃ fd : FuncData, (∀ (s : Shared) (v : Value), BindsTo s fd ⟨[v], []⟩ [("_law_script", v)]) ∧ ∀ base : Heap, K.In base → base.Ns mainGlobals mg → FnOk l.prog w K mg base CX0 7 fa fd ["_law_script"] (spLaw K) := by
  have e := hfa.symm.trans (PySem.W.mg_of X G a20)
  cases e
  have T : Txt mg := ⟨PySem.W.mg_none_of X G z0, PySem.W.mg_none_of X G z1, PySem.W.mg_none_of X G z2, PySem.W.mg_none_of X G z3, PySem.W.mg_none_of X G z4, PySem.W.mg_none_of X G z5, PySem.W.mg_none_of X G z6, PySem.W.mg_none_of X G z7, PySem.W.mg_none_of X G z8, PySem.W.mg_none_of X G z9, PySem.W.mg_none_of X G z10, PySem.W.mg_none_of X G z11, PySem.W.mg_none_of X G z12, PySem.W.mg_none_of X G z13, PySem.W.mg_none_of X G z14, PySem.W.mg_none_of X G z15, PySem.W.mg_none_of X G z16, PySem.W.mg_none_of X G z17, PySem.W.mg_none_of X G z18⟩
  have W : WkC K C_Walk := ⟨⟨pg_Walk, hd_Walk, po_Walk, sa_Walk⟩, n0_Walk, n1_Walk, n2_Walk⟩
  have D_Walk___init__ : DfI K mg C_Walk "Walk" "Walk.__init__" s_Walk___init__ ps_Walk___init__ := ⟨f0, _, fun_mk l0 c0 k0, ⟨mk_Walk, a0, i0, kc_Walk⟩, PySem.W.mg_of X G aC_Walk, (fun_mk l0 c0 k0).binds (fun _ _ _ _ _ _ us hl => match us, hl with | [_], _ => rfl)⟩
  have D_Walk_fits : DfM K C_Walk "fits" "Walk.fits" s_Walk_fits ps_Walk_fits := ⟨f1, _, fun_mk l1 c1 k1, ⟨a1, i1, k1⟩, (fun_mk l1 c1 k1).binds (fun _ _ _ _ _ _ us hl => match us, hl with | [_, _], _ => rfl)⟩
  have D_Walk_step : DfM K C_Walk "step" "Walk.step" s_Walk_step ps_Walk_step := ⟨f2, _, fun_mk l2 c2 k2, ⟨a2, i2, k2⟩, (fun_mk l2 c2 k2).binds (fun _ _ _ _ _ _ us hl => match us, hl with | [_, _], _ => rfl)⟩
  have F_wr := fun_mk (st := s_with_reads) l3 c3 k3
  have m_wr := PySem.W.mg_of X G a3
  have D_law_box : Df K mg "_law_box" s_law_box ps_law_box := df_of X G a4 l4 c4 k4 (fun _ _ _ _ _ _ us hl => match us, hl with | [_, _], _ => rfl)
  have D_law_take : Df K mg "_law_take" s_law_take ps_law_take := df_of X G a5 l5 c5 k5 (fun _ _ _ _ _ _ us hl => match us, hl with | [_, _], _ => rfl)
  have D_law_of : Df K mg "_law_of" s_law_of ps_law_of := df_of X G a6 l6 c6 k6 (fun _ _ _ _ _ _ us hl => match us, hl with | [_, _], _ => rfl)
  have D_law_same : Df K mg "_law_same" s_law_same ps_law_same := df_of X G a7 l7 c7 k7 (fun _ _ _ _ _ _ us hl => match us, hl with | [_, _], _ => rfl)
  have D_law_lists : Df K mg "_law_lists" s_law_lists ps_law_lists := df_of X G a8 l8 c8 k8 (fun _ _ _ _ _ _ us hl => match us, hl with | [_], _ => rfl)
  have D_law_event : Df K mg "_law_event" s_law_event ps_law_event := df_of X G a9 l9 c9 k9 (fun _ _ _ _ _ _ us hl => match us, hl with | [_, _, _, _, _], _ => rfl)
  have D_law_moved : Df K mg "_law_moved" s_law_moved ps_law_moved := df_of X G a10 l10 c10 k10 (fun _ _ _ _ _ _ us hl => match us, hl with | [_, _], _ => rfl)
  have D_law_table : Df K mg "_law_table" s_law_table ps_law_table := df_of X G a11 l11 c11 k11 (fun _ _ _ _ _ _ us hl => match us, hl with | [_, _, _, _, _, _], _ => rfl)
  have D_law_ended : Df K mg "_law_ended" s_law_ended ps_law_ended := df_of X G a12 l12 c12 k12 (fun _ _ _ _ _ _ us hl => match us, hl with | [_], _ => rfl)
  have D_law_start : Df K mg "_law_start" s_law_start ps_law_start := df_of X G a13 l13 c13 k13 (fun _ _ _ _ _ _ us hl => match us, hl with | [], _ => rfl)
  have D_law_with : Df K mg "_law_with" s_law_with ps_law_with := df_of X G a14 l14 c14 k14 (fun _ _ _ _ _ _ us hl => match us, hl with | [_, _], _ => rfl)
  have D_law_free : Df K mg "_law_free" s_law_free ps_law_free := df_of X G a15 l15 c15 k15 (fun _ _ _ _ _ _ us hl => match us, hl with | [_], _ => rfl)
  have D_law_waited : Df K mg "_law_waited" s_law_waited ps_law_waited := df_of X G a16 l16 c16 k16 (fun _ _ _ _ _ _ us hl => match us, hl with | [_, _, _, _], _ => rfl)
  have D_law_lagging : Df K mg "_law_lagging" s_law_lagging ps_law_lagging := df_of X G a17 l17 c17 k17 (fun _ _ _ _ _ _ us hl => match us, hl with | [_], _ => rfl)
  have D_law_some_reads : Df K mg "_law_some_reads" s_law_some_reads ps_law_some_reads := df_of X G a18 l18 c18 k18 (fun _ _ _ _ _ _ us hl => match us, hl with | [_, _], _ => rfl)
  have D_law_right : Df K mg "_law_right" s_law_right ps_law_right := df_of X G a19 l19 c19 k19 (fun _ _ _ _ _ _ us hl => match us, hl with | [_], _ => rfl)
  refine ⟨PySem.W.fnOf "law" "law" (defArgs s_law) (defBody s_law) (defScope s_law) .none kV20 dc20 pm20 an20 cd20 ct20, fun s v => .of_eq rfl, fun base _ _ => ?_⟩
  have F_law := fun_mk (st := s_law) l20 c20 k20
  have G_law_take : Has l.prog w K mg base 1 "_law_take" ps_law_take spTake := has_take D_law_take T
  have G_law_box : Has l.prog w K mg base 1 "_law_box" ps_law_box (spBox K) := has_box D_law_box T
  have G_law_of : Has l.prog w K mg base 2 "_law_of" ps_law_of spOf := has_of D_law_of T G_law_take
  have G_law_event : Has l.prog w K mg base 3 "_law_event" ps_law_event spEvent := has_event D_law_event T G_law_take G_law_of
  have G_law_moved : Has l.prog w K mg base 1 "_law_moved" ps_law_moved spMoved := has_moved D_law_moved T
  have G_law_table : Has l.prog w K mg base 4 "_law_table" ps_law_table spTable := has_table D_law_table T G_law_event G_law_moved
  have G_law_ended : Has l.prog w K mg base 2 "_law_ended" ps_law_ended spEnded := has_ended D_law_ended T G_law_moved
  have G_law_same : Has l.prog w K mg base 4 "_law_same" ps_law_same (spSame K 3) := has_same D_law_same T 3
  have G_law_lists : Has l.prog w K mg base 3 "_law_lists" ps_law_lists (spLists K 2) := has_lists D_law_lists T 2
  have I_Walk : HasI l.prog w K mg base C_Walk 1 "Walk" ps_Walk___init__ (spInit C_Walk) := has_init D_Walk___init__ T W
  have G_fits : HasM l.prog w K mg base C_Walk 1 "fits" ps_Walk_fits (spFits K C_Walk) := has_fits D_Walk_fits T W
  have G_step : HasM l.prog w K mg base C_Walk 1 "step" ps_Walk_step (spStep K C_Walk) := has_step D_Walk_step T W
  have R_wr := ok_wr (P := l.prog) (w := w) (mg := mg) (base := base) F_wr T W I_Walk G_fits G_step
  have G_with_reads : Has l.prog w K mg base 3 "with_reads" ps_with_reads (spWr K) := ⟨_, _, R_wr, m_wr, k3, F_wr.binds (fun _ _ _ _ _ _ us hl => match us, hl with | [_, _], _ => rfl)⟩
  have KK_with_reads : HasK l.prog w K mg base 3 "with_reads" ps_with_reads ["reads", "timetable"] (fun vs zs => kvTwo vs zs) (spWr K) := ⟨_, _, _, R_wr, m_wr, k3, kb_two⟩
  have G_law_start : Has l.prog w K mg base 1 "_law_start" ps_law_start spStart := has_start D_law_start T
  have G_law_with : Has l.prog w K mg base 2 "_law_with" ps_law_with spWith := has_with D_law_with T G_law_start G_law_moved
  have G_law_free : Has l.prog w K mg base 2 "_law_free" ps_law_free spFree := has_free D_law_free T G_law_start G_law_moved
  have G_law_waited : Has l.prog w K mg base 5 "_law_waited" ps_law_waited spWaited := has_waited D_law_waited T G_law_take G_law_table G_law_ended
  have G_law_lagging : Has l.prog w K mg base 2 "_law_lagging" ps_law_lagging spLagging := has_lagging D_law_lagging T G_law_take
  have G_law_some_reads : Has l.prog w K mg base 3 "_law_some_reads" ps_law_some_reads spSome := has_somereads D_law_some_reads T G_law_take G_law_of G_law_free
  have G_law_right : Has l.prog w K mg base 6 "_law_right" ps_law_right spRight := has_right D_law_right T G_law_take G_law_lagging G_law_waited G_law_some_reads G_law_with G_law_lists G_law_same G_with_reads KK_with_reads
  exact ok_law F_law T G_law_box G_law_right
end PK
open PySem PySem.W PyProof.Rows
set_option maxHeartbeats 0 in
theorem PySem.Challenge.cw_missedmarks_k80_reads_in_the_place_of_wa_holds : PySem.Challenge.rw_missedmarks_k80_reads_in_the_place_of_wa.Holds := by
  w_on; o_law; k_head; (case hw => w_witness2)
  k_fill
  refine L2.walk_of (l := PySem.Challenge.rw_missedmarks_k80_reads_in_the_place_of_wa) (n := 63) (k := 7) (x := "_law_script") (CX := fun _ => L2.CX0) (sp := fun w => PK.spLaw _) rfl (by decide) rfl ⟨rfl, by decide, by decide⟩ (fun w h Y => PySem.W.kIn_of Y) ?F (fun _ _ a ns hl _ hS => ⟨a, ns, rfl, hS, hl, fun _ => rfl⟩) (fun _ _ _ _ _ h => h)
  case F =>
    intro w mg fa h KX G hmg
    refine' PK.all_mk KX G hmg ?aC_Walk ?pg_Walk ?hd_Walk ?po_Walk ?sa_Walk ?mk_Walk ?kc_Walk ?n0_Walk ?n1_Walk ?n2_Walk ?a0 ?i0 ?l0 ?c0 ?k0 ?a1 ?i1 ?l1 ?c1 ?k1 ?a2 ?i2 ?l2 ?c2 ?k2 ?a3 ?l3 ?c3 ?k3 ?a4 ?l4 ?c4 ?k4 ?a5 ?l5 ?c5 ?k5 ?a6 ?l6 ?c6 ?k6 ?a7 ?l7 ?c7 ?k7 ?a8 ?l8 ?c8 ?k8 ?a9 ?l9 ?c9 ?k9 ?a10 ?l10 ?c10 ?k10 ?a11 ?l11 ?c11 ?k11 ?a12 ?l12 ?c12 ?k12 ?a13 ?l13 ?c13 ?k13 ?a14 ?l14 ?c14 ?k14 ?a15 ?l15 ?c15 ?k15 ?a16 ?l16 ?c16 ?k16 ?a17 ?l17 ?c17 ?k17 ?a18 ?l18 ?c18 ?k18 ?a19 ?l19 ?c19 ?k19 ?a20 ?l20 ?c20 ?k20 ?z0 ?z1 ?z2 ?z3 ?z4 ?z5 ?z6 ?z7 ?z8 ?z9 ?z10 ?z11 ?z12 ?z13 ?z14 ?z15 ?z16 ?z17 ?z18
    (case aC_Walk => k_is); (case pg_Walk => k_is); (case hd_Walk => k_is); (case po_Walk => k_is); (case sa_Walk => k_is); (case mk_Walk => k_is); (case kc_Walk => k_is); (case n0_Walk => k_is)
    (case n1_Walk => k_is); (case n2_Walk => k_is); (case a0 => k_is); (case i0 => k_is); (case l0 => k_is); (case c0 => k_is); (case k0 => k_is); (case a1 => k_is)
    (case i1 => k_is); (case l1 => k_is); (case c1 => k_is); (case k1 => k_is); (case a2 => k_is); (case i2 => k_is); (case l2 => k_is); (case c2 => k_is)
    (case k2 => k_is); (case a3 => k_is); (case l3 => k_is); (case c3 => k_is); (case k3 => k_is); (case a4 => k_is); (case l4 => k_is); (case c4 => k_is)
    (case k4 => k_is); (case a5 => k_is); (case l5 => k_is); (case c5 => k_is); (case k5 => k_is); (case a6 => k_is); (case l6 => k_is); (case c6 => k_is)
    (case k6 => k_is); (case a7 => k_is); (case l7 => k_is); (case c7 => k_is); (case k7 => k_is); (case a8 => k_is); (case l8 => k_is); (case c8 => k_is)
    (case k8 => k_is); (case a9 => k_is); (case l9 => k_is); (case c9 => k_is); (case k9 => k_is); (case a10 => k_is); (case l10 => k_is); (case c10 => k_is)
    (case k10 => k_is); (case a11 => k_is); (case l11 => k_is); (case c11 => k_is); (case k11 => k_is); (case a12 => k_is); (case l12 => k_is); (case c12 => k_is)
    (case k12 => k_is); (case a13 => k_is); (case l13 => k_is); (case c13 => k_is); (case k13 => k_is); (case a14 => k_is); (case l14 => k_is); (case c14 => k_is)
    (case k14 => k_is); (case a15 => k_is); (case l15 => k_is); (case c15 => k_is); (case k15 => k_is); (case a16 => k_is); (case l16 => k_is); (case c16 => k_is)
    (case k16 => k_is); (case a17 => k_is); (case l17 => k_is); (case c17 => k_is); (case k17 => k_is); (case a18 => k_is); (case l18 => k_is); (case c18 => k_is)
    (case k18 => k_is); (case a19 => k_is); (case l19 => k_is); (case c19 => k_is); (case k19 => k_is); (case a20 => k_is); (case l20 => k_is); (case c20 => k_is)
    (case k20 => k_is); (case z0 => k_is); (case z1 => k_is); (case z2 => k_is); (case z3 => k_is); (case z4 => k_is); (case z5 => k_is); (case z6 => k_is)
    (case z7 => k_is); (case z8 => k_is); (case z9 => k_is); (case z10 => k_is); (case z11 => k_is); (case z12 => k_is); (case z13 => k_is); (case z14 => k_is)
    (case z15 => k_is); (case z16 => k_is); (case z17 => k_is); (case z18 => k_is)

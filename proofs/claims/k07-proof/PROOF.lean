import PyProof.Rows.All
import Wide.All
import OpenK.AllK
import Wide.FinOn
import HandS.ForMost
import HandS.Flow
import HandS.Style
import HandS.IsInst
import HandS.Zip
import HandS.Walk
import HandS.TupAny
import HandS.Wide
import HandS.SetBool
import HandS.Strs
import HandS.SortInts
import HandS.More
import KE.GoesEnum
import HandS.SetFor
import HandS.List
import PyProof.Rows.MatchSeqLen
import HandS.RevRange
import HandS.SortRule
import HandS.DictTup
import HandS.ListItems
import PyProof.Rows.SortKeyStr
import KE.KDictPairs
import HandS.Defaults
import KE.KEqNest
import HandS.DictComp
import HandS.OwnEq
import HandS.MakeKw
import HandS.MakeKwOnly
import HandS.TupMul
import OpenK.KMake
import HandS.Deep
import HandS.SetKeys
import HandS.Small
import PySem.Challenge.RW_missedmarks_k07_guards_and_sweeps
set_option Elab.async false
set_option linter.all false
set_option maxRecDepth 100000
set_option maxHeartbeats 2000000
set_option Elab.async false
set_option linter.all false
set_option maxRecDepth 100000
/-! Steps that read a term of the hand layer from the left, one construct at a time. -/
namespace WK
open PySem L2
section
variable {K : PySem.W.Frag} {σ : L2.St} {H : Hp} {Q : VK} {D : Ends} {ta tb tc te : TE} {tt tu : TT} {x y v : V} {r : R2}
theorem w_var {i : Nat} (h : σ[i]? = some (some v)) (k : Q v H) : tVar i σ H Q := ⟨v, h, k⟩
theorem w_c (k : Q v H) : tC v σ H Q := k
theorem w_op (k : ta σ H fun x H1 => tb σ H1 fun y H2 => r x y H2 Q) : tOp r ta tb σ H Q := k
theorem w_un {r : V → Hp → VK → Prop} (k : ta σ H fun x H1 => r x H1 Q) : tUn r ta σ H Q := k
theorem w_I0 {g : Int → Int → V} {i j : Int} (k : Q (g i j) H) : rI0 g (.int i) (.int j) H Q := ⟨i, j, rfl, rfl, k⟩
theorem w_I {C : Int → Int → Prop} {g : Int → Int → V} {i j : Int} (c : C i j) (k : Q (g i j) H) : rI C g (.int i) (.int j) H Q := ⟨i, j, rfl, rfl, c, k⟩
theorem w_U {g : Int → V} {i : Int} (k : Q (g i) H) : rU g (.int i) H Q := ⟨i, rfl, k⟩
theorem w_eqI {i j : Int} (k : Q (.bl (decide (i = j))) H) : rEq (.int i) (.int j) H Q := ⟨rfl, by
  have e : decide (V.int i = V.int j) = decide (i = j) := by
    by_cases h : i = j
    · subst h; simp
    · rw [decide_eq_false h, decide_eq_false fun q => h (V.int.inj q)]
  rw [e]; exact k⟩
theorem w_neI {i j : Int} (k : Q (.bl (!decide (i = j))) H) : rNe (.int i) (.int j) H Q := ⟨rfl, by
  have e : decide (V.int i = V.int j) = decide (i = j) := by
    by_cases h : i = j
    · subst h; simp
    · rw [decide_eq_false h, decide_eq_false fun q => h (V.int.inj q)]
  rw [e]; exact k⟩
theorem w_eqS {i j : Str} (k : Q (.bl (decide (i = j))) H) : rEq (.str i) (.str j) H Q := ⟨rfl, by
  have e : decide (V.str i = V.str j) = decide (i = j) := by
    by_cases h : i = j
    · subst h; simp
    · rw [decide_eq_false h, decide_eq_false fun q => h (V.str.inj q)]
  rw [e]; exact k⟩
theorem w_neS {i j : Str} (k : Q (.bl (!decide (i = j))) H) : rNe (.str i) (.str j) H Q := ⟨rfl, by
  have e : decide (V.str i = V.str j) = decide (i = j) := by
    by_cases h : i = j
    · subst h; simp
    · rw [decide_eq_false h, decide_eq_false fun q => h (V.str.inj q)]
  rw [e]; exact k⟩
theorem w_eqB {i j : Bool} (k : Q (.bl (i == j)) H) : rEq (.bl i) (.bl j) H Q := ⟨rfl, by
  have e : decide (V.bl i = V.bl j) = (i == j) := by cases i <;> cases j <;> rfl
  rw [e]; exact k⟩
theorem w_neB {i j : Bool} (k : Q (.bl (!(i == j))) H) : rNe (.bl i) (.bl j) H Q := ⟨rfl, by
  have e : decide (V.bl i = V.bl j) = (i == j) := by cases i <;> cases j <;> rfl
  rw [e]; exact k⟩
/-! statements -/
theorem w_seq {t u : TS} (k : t { D with nx := u D } σ H) : tSeq t u D σ H := k
theorem w_next (k : D.nx σ H) : tNext D σ H := k
theorem w_asg {g : TG} (k : te σ H fun x H1 => g x σ H1 D.nx) : tAsg te g D σ H := k
theorem w_name {i : Nat} {R : L2.St → Hp → Prop} (k : R (σ.set i (some v)) H) : gName i v σ H R := k
theorem w_gsub {to ti : TE} {t : TSet} {R : L2.St → Hp → Prop} (k : to σ H fun o H1 => ti σ H1 fun i H2 => t o i v H2 fun H3 => R σ H3) : gSub to ti t v σ H R := k
theorem w_drop (k : te σ H fun _ H1 => D.nx σ H1) : tDrop te D σ H := k
theorem w_ret (k : te σ H D.rt) : tRet te D σ H := k
theorem w_if {t u : TS} (k : tt σ H fun b H1 => if b = true then t D σ H1 else u D σ H1) : tIfS tt t u D σ H := k
theorem w_par {i j : Nat} {t : TA} (k : t σ H fun vs H1 => ∃ v w, vs = [v, w] ∧ D.nx ((σ.set i (some v)).set j (some w)) H1) : tPar i j t D σ H := k
theorem w_par3 {i j l : Nat} {t : TA} (k : t σ H fun vs H1 => ∃ u v w, vs = [u, v, w] ∧ D.nx (((σ.set i (some u)).set j (some v)).set l (some w)) H1) : tPar3 i j l t D σ H := k
/-- where ways meet: what is known of a value, of a state, behind them -/
theorem w_gen (R : VK) (h : ∀ v H', R v H' → Q v H') (k : ∀ Q0 : VK, (∀ v H', R v H' → Q0 v H') → te σ H Q0) : te σ H Q := k Q h
theorem w_genS {t : TS} (R : L2.St → Hp → Prop) (h : ∀ σ' H', R σ' H' → D.nx σ' H') (k : ∀ D' : Ends, D'.rt = D.rt → D'.bk = D.bk → D'.ct = D.ct → (∀ σ' H', R σ' H' → D'.nx σ' H') → t D' σ H) : t D σ H := k D rfl rfl rfl h
theorem w_genT {R : Bool → Hp → Prop} (T : Bool → Hp → Prop) (h : ∀ b H', T b H' → R b H') (k : ∀ R0 : Bool → Hp → Prop, (∀ b H', T b H' → R0 b H') → tt σ H R0) : tt σ H R := k R h
theorem w_genA {t : TA} {R : List V → Hp → Prop} (T : List V → Hp → Prop) (h : ∀ vs H', T vs H' → R vs H') (k : ∀ R0 : List V → Hp → Prop, (∀ vs H', T vs H' → R0 vs H') → t σ H R0) : t σ H R := k R h
theorem w_ifP {c A B : Prop} [Decidable c] (h : c) (k : A) : if c then A else B := by rw [if_pos h]; exact k
theorem w_ifN {c A B : Prop} [Decidable c] (h : ¬ c) (k : B) : if c then A else B := by rw [if_neg h]; exact k
theorem w_2 {p : Prop} [Decidable p] {A B : Prop} (h1 : p → A) (h2 : ¬ p → B) : if decide p = true then A else B := by
  by_cases h : p
  · rw [if_pos (decide_eq_true h)]; exact h1 h
  · rw [if_neg (by rw [decide_eq_false h]; decide)]; exact h2 h
theorem w_2n {p : Prop} [Decidable p] {A B : Prop} (h1 : ¬ p → A) (h2 : p → B) : if (!decide p) = true then A else B := by
  by_cases h : p
  · rw [if_neg (by rw [decide_eq_true h]; decide)]; exact h2 h
  · rw [if_pos (by rw [decide_eq_false h]; decide)]; exact h1 h
theorem w_gtup {n : Nat} {t : TGs} {a : Addr} {xs : List V} {R : L2.St → Hp → Prop} (h : H a = some (.tup xs)) (hn : xs.length = n) (k : t xs σ H R) : gTup K n t (.ref a) σ H R := ⟨a, xs, rfl, SqT.of h, hn, k⟩
theorem w_gcons {t : TG} {u : TGs} {r : List V} {R : L2.St → Hp → Prop} (k : t v σ H fun σ' H' => u r σ' H' R) : gCons t u (v :: r) σ H R := ⟨v, r, rfl, k⟩
theorem w_gnil {R : L2.St → Hp → Prop} (k : R σ H) : gNil [] σ H R := ⟨rfl, k⟩
/-! tests -/
theorem w_B {R : Bool → Hp → Prop} (k : te σ H fun x H1 => ∃ c, x = .bl c ∧ R c H1) : tB te σ H R := k
theorem w_T {R : Bool → Hp → Prop} (k : te σ H fun x H1 => ∃ c, x = .bl c ∧ R c H1) : tTest te σ H R := k
theorem w_bl {R : Bool → Hp → Prop} {b : Bool} (k : R b H) : ∃ c, V.bl b = .bl c ∧ R c H := ⟨b, rfl, k⟩
theorem w_and {R : Bool → Hp → Prop} (k : tt σ H fun c H1 => if c = true then tu σ H1 R else R false H1) : tAnd tt tu σ H R := k
theorem w_or {R : Bool → Hp → Prop} (k : tt σ H fun c H1 => if c = true then R true H1 else tu σ H1 R) : tOr tt tu σ H R := k
theorem w_not {R : Bool → Hp → Prop} (k : tt σ H fun c H1 => R (!c) H1) : tNot tt σ H R := k
theorem w_andV (k : ta σ H fun x H1 => ∃ c, x = .bl c ∧ if c = true then tb σ H1 Q else Q (.bl false) H1) : tAndV ta tb σ H Q := k
theorem w_orV (k : ta σ H fun x H1 => ∃ c, x = .bl c ∧ if c = true then Q (.bl true) H1 else tb σ H1 Q) : tOrV ta tb σ H Q := k
theorem w_notV (k : ta σ H fun x H1 => ∃ c, x = .bl c ∧ Q (.bl (!c)) H1) : tNotV ta σ H Q := k
theorem w_ifE (k : tt σ H fun c H1 => if c = true then ta σ H1 Q else tb σ H1 Q) : tIf tt ta tb σ H Q := k
theorem w_ex {P : Bool → Prop} {b : Bool} (k : P b) : ∃ c, V.bl b = .bl c ∧ P c := ⟨b, rfl, k⟩
theorem w_isN (k : Q (.bl (decide (x = .non))) H) : (fun (x y : V) (H : Hp) (Q : VK) => y = V.non ∧ Q (.bl (decide (x = .non))) H) x .non H Q := ⟨rfl, k⟩
theorem w_notN (k : Q (.bl (!decide (x = .non))) H) : (fun (x y : V) (H : Hp) (Q : VK) => y = V.non ∧ Q (.bl (!decide (x = .non))) H) x .non H Q := ⟨rfl, k⟩
/-! calls, displays -/
theorem w_nil {R : List V → Hp → Prop} (k : R [] H) : tNil σ H R := k
theorem w_cons {t : TA} {R : List V → Hp → Prop} (k : ta σ H fun x H1 => t σ H1 fun xs H2 => R (x :: xs) H2) : tCons ta t σ H R := k
theorem w_call {sp : Sp} {dvs : List V} {E : XK} {t : TA} (k : t σ H fun vs H1 => sp (vs ++ dvs) H1 Q E) : tCall sp dvs E t σ H Q := k
theorem w_cb {r : List V → Hp → VK → Prop} {t : TA} (k : t σ H fun vs H1 => r vs H1 Q) : tCB r t σ H Q := k
theorem w_tup {t : TA} (k : t σ H fun xs H1 => xs.length ≤ sizeLine ∧ ∀ p, H1 p = none → Q (.ref p) (upd H1 p (.tup xs))) : tTup t σ H Q := k
theorem w_lst {t : TA} (k : t σ H fun xs H1 => xs.length ≤ sizeLine ∧ ∀ p, H1 p = none → Q (.ref p) (upd H1 p (.lst xs))) : tLst t σ H Q := k
theorem w_bm {T : String} {r : V → List V → Hp → VK → Prop} {t : TA} (k : ta σ H fun x H1 => tyV K T x H1 ∧ t σ H1 fun xs H2 => r x xs H2 Q) : tBM K T r ta t σ H Q := k
theorem w_bm0 {T : String} {r : V → List V → Hp → VK → Prop} (k : ta σ H fun x H1 => tyV K T x H1 ∧ r x [] H1 Q) : tBM0 K T r ta σ H Q := k
theorem w_dget (k : ta σ H fun x H1 => tb σ H1 fun y H2 => ∃ a v, x = .ref a ∧ DGet H2 a y (some v) ∧ Q v H2) : tDGet ta tb σ H Q := k
theorem w_din (k : ta σ H fun y H1 => tb σ H1 fun x H2 => ∃ a o, x = .ref a ∧ DGet H2 a y o ∧ Q (.bl o.isSome) H2) : tDIn ta tb σ H Q := k
theorem w_dnotin (k : ta σ H fun y H1 => tb σ H1 fun x H2 => ∃ a o, x = .ref a ∧ DGet H2 a y o ∧ Q (.bl (!o.isSome)) H2) : tDNotIn ta tb σ H Q := k
theorem w_dput (k : tc σ H fun v H1 => ta σ H1 fun x H2 => tb σ H2 fun y H3 => ∃ a H4, x = .ref a ∧ DPut H3 a y v H4 ∧ D.nx σ H4) : sDPut ta tb tc D σ H := k
theorem w_sl {r : V → Option Int → Option Int → Hp → VK → Prop} {tl th : TO} (k : te σ H fun x H1 => tl σ H1 fun l H2 => th σ H2 fun u H3 => r x l u H3 Q) : tSl r te tl th σ H Q := k
theorem w_noPart {R : Option Int → Hp → Prop} (k : R none H) : tNoPart σ H R := k
theorem w_part {R : Option Int → Hp → Prop} (k : te σ H fun x H1 => ∃ i, x = .int i ∧ R (some i) H1) : tPart te σ H R := k
theorem w_exI {P : Int → Prop} {i : Int} (k : P i) : ∃ j, V.int i = .int j ∧ P j := ⟨i, rfl, k⟩
theorem w_yes {R : Bool → Hp → Prop} (k : R true H) : tYes σ H R := k
theorem w_ixL {p : Addr} {xs : List V} {j : Nat} (h : H p = some (.lst xs)) (hx : xs[j]? = some v) (k : Q v H) : rIxL K (.ref p) (.int (j : Int)) H Q := ⟨p, xs, (j : Int), v, rfl, rfl, SqL.of h, atI_nat hx, k⟩
theorem at_ofG {α : Type} {xs : List α} {z : Int} {j : Nat} {v : α} (e : z = (j : Int)) (h : xs[j]? = some v) : atI xs z = some v := by
  rw [e]
  exact atI_nat h
theorem w_ix {p : Addr} {xs : List V} {i : Int} (h : H p = some (.lst xs)) (hx : atI xs i = some v) (k : Q v H) : rIxL K (.ref p) (.int i) H Q := ⟨p, xs, i, v, rfl, rfl, SqL.of h, hx, k⟩
theorem w_ixT {p : Addr} {xs : List V} {i : Int} (h : H p = some (.tup xs)) (hx : atI xs i = some v) (k : Q v H) : rIxT K (.ref p) (.int i) H Q := ⟨p, xs, i, v, rfl, rfl, SqT.of h, hx, k⟩
theorem w_set {p : Addr} {xs : List V} {i : Int} {j : Nat} {R : Hp → Prop} (h : H p = some (.lst xs)) (hj : ixN xs.length i = some j) (k : R (upd H p (.lst (xs.set j v)))) : rSetL (.ref p) (.int i) v H R := ⟨p, xs, i, j, rfl, rfl, h, hj, k⟩
theorem w_setL {p : Addr} {xs : List V} {j : Nat} {R : Hp → Prop} (h : H p = some (.lst xs)) (hj : j < xs.length) (k : R (upd H p (.lst (xs.set j v)))) : rSetL (.ref p) (.int (j : Int)) v H R :=
  ⟨p, xs, j, j, rfl, rfl, h, by unfold ixN; rw [if_pos (by omega), if_pos (by omega)]; simp, k⟩
theorem w_int1 {i : Int} (k : Q (.int i) H) : (fun (xs : List V) (H : Hp) (Q : VK) => (∃ i, xs = [.int i] ∧ Q (.int i) H) ∨ ∃ k, xs = [.bl k] ∧ Q (.int (if k then 1 else 0)) H) [.int i] H Q := .inl ⟨i, rfl, k⟩
theorem w_intB {b : Bool} (k : Q (.int (if b then 1 else 0)) H) : (fun (xs : List V) (H : Hp) (Q : VK) => (∃ i, xs = [.int i] ∧ Q (.int i) H) ∨ ∃ k, xs = [.bl k] ∧ Q (.int (if k then 1 else 0)) H) [.bl b] H Q := .inr ⟨b, rfl, k⟩
theorem w_abs {i : Int} (k : Q (.int (if i < 0 then -i else i)) H) : (fun (xs : List V) (H : Hp) (Q : VK) => ∃ i, xs = [.int i] ∧ Q (.int (if i < 0 then -i else i)) H) [.int i] H Q := ⟨i, rfl, k⟩
theorem w_or1 {P : Int → Prop} {R : Prop} {i : Int} (k : P i) : (∃ j, [V.int i] = [V.int j] ∧ P j) ∨ R := .inl ⟨i, rfl, k⟩
theorem w_or2 {P : Bool → Prop} {R : Prop} {b : Bool} (k : P b) : R ∨ ∃ j, [V.bl b] = [V.bl j] ∧ P j := .inr ⟨b, rfl, k⟩
theorem w_ex1 {P : Int → Prop} {i : Int} (k : P i) : ∃ j, [V.int i] = [V.int j] ∧ P j := ⟨i, rfl, k⟩
theorem w_ex2 {P : Int → Int → Prop} {i j : Int} (k : P i j) : ∃ a b, [V.int i, V.int j] = [V.int a, V.int b] ∧ P a b := ⟨i, j, rfl, k⟩
theorem w_rfl {R : Prop} (k : R) : x = x ∧ R := ⟨rfl, k⟩
theorem w_len {p : Addr} {P : Int → Prop} {ys : List V} (h : SqL K H p ys ∨ SqT K H p ys) (k : P ys.length) : ∃ p' ys', [V.ref p] = [V.ref p'] ∧ (SqL K H p' ys' ∨ SqT K H p' ys') ∧ P ys'.length := ⟨p, ys, rfl, h, k⟩
theorem w_lenS {z : Str} {P : Int → Prop} (h : z.length ≤ sizeLine) (k : P z.length) : ∃ z', [V.str z] = [V.str z'] ∧ z'.length ≤ sizeLine ∧ P z'.length := ⟨z, rfl, h, k⟩
theorem w_pr2 {P : V → V → Prop} (k : P x y) : ∃ a b, [x, y] = [a, b] ∧ P a b := ⟨x, y, rfl, k⟩
theorem w_pr3 {P : V → V → V → Prop} {z : V} (k : P x y z) : ∃ a b c, [x, y, z] = [a, b, c] ∧ P a b c := ⟨x, y, z, rfl, k⟩
theorem w_inT {p : Addr} {xs : List V} (h : H p = some (.tup xs)) (hx : flatV x = true) (ha : xs.all flatV = true) (k : Q (.bl (inV x xs)) H) : rIn K false x (.ref p) H Q := ⟨p, xs, rfl, .inr (SqT.of h), hx, ha, k⟩
theorem w_ninT {p : Addr} {xs : List V} (h : H p = some (.tup xs)) (hx : flatV x = true) (ha : xs.all flatV = true) (k : Q (.bl (!inV x xs)) H) : rIn K true x (.ref p) H Q := ⟨p, xs, rfl, .inr (SqT.of h), hx, ha, k⟩
theorem sz {n : Nat} (h : n ≤ 1000 := by simp) : n ≤ sizeLine := Nat.le_trans h (by decide)
theorem sz' {n : Nat} (h : n < 100000) : n < sizeLine := Nat.lt_of_lt_of_le h (by decide)
theorem w_app {l : Addr} {xs : List V} {y : V} (h : H l = some (.lst xs)) (hz : xs.length < sizeLine) (k : Q .non (upd H l (.lst (xs ++ [y])))) : rAppend (.ref l) [y] H Q := ⟨l, xs, y, rfl, rfl, h, hz, k⟩
theorem w_tyL {l : Addr} {xs : List V} {P : Prop} (h : H l = some (.lst xs)) (k : P) : tyV K "list" (.ref l) H ∧ P := ⟨.inl ⟨rfl, xs, SqL.of h⟩, k⟩
end
end WK

set_option Elab.async false
set_option linter.all false
set_option maxRecDepth 100000
/-! Heaps that grow; events, timetables, where readers are: the mathematics of what the law draws. -/
namespace PK
open PySem L2

/-! ### heaps that grow, but for what is at M -/
structure Gr (M : List Addr) (H H' : Hp) : Prop where
  keep : ∀ a o, a ∉ M → H a = some o → H' a = some o
  tup : ∀ a xs, H a = some (.tup xs) → H' a = some (.tup xs)
  fix : ∀ a o u, H a = some (.frz o u) → H' a = some (.frz o u)
  live : ∀ a, H' a = none → H a = none
theorem Gr.refl (M : List Addr) (H : Hp) : Gr M H H := ⟨fun _ _ _ h => h, fun _ _ h => h, fun _ _ _ h => h, fun _ h => h⟩
theorem Gr.trans {M : List Addr} {H H1 H2 : Hp} (g : Gr M H H1) (g' : Gr M H1 H2) : Gr M H H2 :=
  ⟨fun a o n h => g'.keep a o n (g.keep a o n h), fun a xs h => g'.tup a xs (g.tup a xs h), fun a o u h => g'.fix a o u (g.fix a o u h), fun a h => g.live a (g'.live a h)⟩
theorem Gr.mono {M M' : List Addr} {H H1 : Hp} (g : Gr M H H1) (h : ∀ a ∈ M, a ∈ M') : Gr M' H H1 :=
  ⟨fun a o n e => g.keep a o (fun z => n (h a z)) e, g.tup, g.fix, g.live⟩
theorem Gr.new {M : List Addr} {H : Hp} {p : Addr} {o : HO} (h : H p = none) : Gr M H (upd H p o) :=
  ⟨fun a u _ e => by rw [upd_ne (ne_of_none e h)]; exact e, fun a u e => by rw [upd_ne (ne_of_none e h)]; exact e, fun a u v e => by rw [upd_ne (ne_of_none e h)]; exact e, fun a e => by
    by_cases q : a = p
    · rw [q]; exact h
    · rw [upd_ne q] at e; exact e⟩
theorem Gr.mut {M : List Addr} {H : Hp} {p : Addr} {o u : HO} (h : H p = some u) (hn : ∀ xs, u ≠ .tup xs) (hm : p ∈ M) (hf : ∀ o v, u ≠ .frz o v := by intro _ _ z; cases z) : Gr M H (upd H p o) :=
  ⟨fun a v n e => by rw [upd_ne (fun q => n (by rw [q]; exact hm))]; exact e, fun a xs e => by rw [upd_ne (fun q => by subst q; rw [h] at e; exact hn xs (Option.some.inj e))]; exact e, fun a o v e => by rw [upd_ne (fun q => by subst q; rw [h] at e; exact hf o v (Option.some.inj e))]; exact e, fun a e => by
    by_cases q : a = p
    · subst q; rw [upd_same] at e; cases e
    · rw [upd_ne q] at e; exact e⟩
theorem Gr.mutL {M : List Addr} {H : Hp} {p : Addr} {xs : List V} {o : HO} (h : H p = some (.lst xs)) (hm : p ∈ M) : Gr M H (upd H p o) := Gr.mut h (fun _ q => by cases q) hm
theorem Gr.mutD {M : List Addr} {H : Hp} {p : Addr} {kvs : List (Key × V)} {o : HO} (h : H p = some (.dK kvs)) (hm : p ∈ M) : Gr M H (upd H p o) := Gr.mut h (fun _ q => by cases q) hm
/-- what was made after H may change -/
theorem Gr.own {M : List Addr} {H H1 H2 : Hp} {p : Addr} (g : Gr M H H1) (g' : Gr (p :: M) H1 H2) (h : H p = none) : Gr M H H2 :=
  ⟨fun a o n e => g'.keep a o (fun z => (List.mem_cons.mp z).elim (fun q => by rw [q, h] at e; cases e) n) (g.keep a o n e), fun a xs e => g'.tup a xs (g.tup a xs e), fun a o u e => g'.fix a o u (g.fix a o u e), fun a e => g.live a (g'.live a e)⟩
theorem Gr.sub {M : List Addr} {H H1 H2 : Hp} {L : List Addr} (g : Gr M H H1) (g' : Gr (L ++ M) H1 H2) (h : ∀ p ∈ L, H p = none) : Gr M H H2 :=
  ⟨fun a o n e => g'.keep a o (fun z => (List.mem_append.mp z).elim (fun q => by rw [h a q] at e; cases e) n) (g.keep a o n e), fun a xs e => g'.tup a xs (g.tup a xs e), fun a o u e => g'.fix a o u (g.fix a o u e), fun a e => g.live a (g'.live a e)⟩
theorem Gr.k1 {b a : Addr} {H H' : Hp} {o : HO} (g : Gr [b] H H') (h : H a = some o) (n : a ≠ b) : H' a = some o := g.keep a o (by simpa using n) h
theorem Gr.k0 {a : Addr} {H H' : Hp} {o : HO} (g : Gr [] H H') (h : H a = some o) : H' a = some o := g.keep a o (by simp) h
theorem Gr.ex {H H' : Hp} (g : Gr [] H H') : ∀ a o, H a = some o → H' a = some o := fun a o h => g.k0 h
theorem Gr.of_ex {M : List Addr} {H H' : Hp} (g : ∀ a o, H a = some o → H' a = some o) : Gr M H H' := ⟨fun a o _ h => g a o h, fun a xs h => g a _ h, fun a o u h => g a _ h, fun a h => by
  cases q : H a with
  | none => rfl
  | some o => rw [g a o q] at h; cases h⟩

/-! ### a source of draws: room for n more -/
def Bx (H : Hp) (b : Addr) (n : Nat) : Prop := ∃ x s c : Int, H b = some (.lst [.int x, .int s, .int c]) ∧ 0 ≤ x ∧ 0 ≤ s ∧ s < 2147483563 ∧ 0 ≤ c ∧ c + n ≤ 1000000
theorem Bx.mono {H : Hp} {b : Addr} {n m : Nat} (h : Bx H b n) (l : m ≤ n) : Bx H b m := by
  obtain ⟨x, s, c, e, h1, h2, h3, h4, h5⟩ := h
  exact ⟨x, s, c, e, h1, h2, h3, h4, by omega⟩
theorem Bx.keep {H H' : Hp} {b : Addr} {n : Nat} {M : List Addr} (h : Bx H b n) (g : Gr M H H') (hb : b ∉ M) : Bx H' b n := by
  obtain ⟨x, s, c, e, r⟩ := h
  exact ⟨x, s, c, g.keep b _ hb e, r⟩
theorem Bx.lst {H : Hp} {b : Addr} {n : Nat} (h : Bx H b n) : ∃ xs, H b = some (.lst xs) := by
  obtain ⟨x, s, c, e, _⟩ := h
  exact ⟨_, e⟩

/-! ### events -/
inductive Ev where
  | put (k : Str) (v : Int) | drop (k : Str) | join (r : Int) | read (r u : Int) | save (r : Int) | load (r c : Int) | wait
def Ev.vs : Ev → List V
  | .put k v => [.str "put", .str k, .int v]
  | .drop k => [.str "drop", .str k]
  | .join r => [.str "join", .int r]
  | .read r u => [.str "read", .int r, .int u]
  | .save r => [.str "save", .int r]
  | .load r c => [.str "load", .int r, .int c]
  | .wait => [.str "wait"]
def Ev.word : Ev → Str
  | .put _ _ => "put"
  | .drop _ => "drop"
  | .join _ => "join"
  | .read _ _ => "read"
  | .save _ => "save"
  | .load _ _ => "load"
  | .wait => "wait"
theorem Ev.at0 (e : Ev) : atI e.vs 0 = some (.str e.word) := by cases e <;> rfl
def KeyOk (k : Str) : Prop := k = "a" ∨ k = "b" ∨ k = "cc" ∨ k = "abc"
def Ev.ok : Ev → Prop
  | .put k v => KeyOk k ∧ 0 ≤ v ∧ v < 9
  | .drop k => KeyOk k
  | .join r => 0 ≤ r ∧ r < 4
  | .read r u => (0 ≤ r ∧ r < 4) ∧ 0 < u
  | .save r => 0 ≤ r ∧ r < 4
  | .load r c => (0 ≤ r ∧ r < 4) ∧ 0 ≤ c
  | .wait => True
/-- a value that is this event, as a tuple -/
def IsEv (H : Hp) (v : V) (e : Ev) : Prop := ∃ a, v = .ref a ∧ H a = some (.tup e.vs)
abbrev Evs (H : Hp) : List V → List Ev → Prop := Paired (IsEv H)
theorem IsEv.gr {H H' : Hp} {M : List Addr} {v : V} {e : Ev} (h : IsEv H v e) (g : Gr M H H') : IsEv H' v e := by
  obtain ⟨a, q, h⟩ := h
  exact ⟨a, q, g.tup a _ h⟩
theorem Evs.gr {H H' : Hp} {M : List Addr} {xs : List V} {es : List Ev} (h : Evs H xs es) (g : Gr M H H') : Evs H' xs es := Paired.mono (fun _ _ q => q.gr g) h
theorem pr_append {α β : Type} {F : α → β → Prop} : ∀ {a : List α} {b : List β} {c : List α} {d : List β}, Paired F a b → Paired F c d → Paired F (a ++ c) (b ++ d)
  | _, _, _, _, .nil, h => h
  | _, _, _, _, .cons h t, h' => .cons h (pr_append t h')
theorem pr_get {α β : Type} {F : α → β → Prop} : ∀ {a : List α} {b : List β} {i : Nat} {x : α}, Paired F a b → a[i]? = some x → ∃ y, b[i]? = some y ∧ F x y
  | _, _, _, _, .nil, h => by simp at h
  | _, _, 0, _, .cons h t, e => by simp at e; subst e; exact ⟨_, rfl, h⟩
  | _, _, i + 1, x, .cons h t, e => by
    obtain ⟨y, e1, e2⟩ := pr_get (i := i) (x := x) t (by simpa using e)
    exact ⟨y, by simpa using e1, e2⟩
theorem pr_get' {α β : Type} {F : α → β → Prop} : ∀ {a : List α} {b : List β} {i : Nat} {y : β}, Paired F a b → b[i]? = some y → ∃ x, a[i]? = some x ∧ F x y
  | _, _, _, _, .nil, h => by simp at h
  | _, _, 0, _, .cons h t, e => by simp at e; subst e; exact ⟨_, rfl, h⟩
  | _, _, i + 1, x, .cons h t, e => by
    obtain ⟨y, e1, e2⟩ := pr_get' (i := i) (y := x) t (by simpa using e)
    exact ⟨y, by simpa using e1, e2⟩
/-- a timetable, as a tuple of tuples -/
def IsTT (H : Hp) (v : V) (es : List Ev) : Prop := ∃ a xs, v = .ref a ∧ H a = some (.tup xs) ∧ Evs H xs es
theorem IsTT.gr {H H' : Hp} {M : List Addr} {v : V} {es : List Ev} (h : IsTT H v es) (g : Gr M H H') : IsTT H' v es := by
  obtain ⟨a, xs, q, h, he⟩ := h
  exact ⟨a, xs, q, g.tup a _ h, he.gr g⟩

/-! ### where readers are -/
structure WS where
  seats : Int → Option Int
  copies : List Int
  many : Int
def WS.nil : WS := ⟨fun _ => none, [], 0⟩
def WS.seat (s : WS) (r p : Int) : WS := { s with seats := fun i => if i = r then some p else s.seats i }
def WS.step (s : WS) : Ev → WS
  | .put _ _ => { s with many := s.many + 1 }
  | .drop _ => { s with many := s.many + 1 }
  | .join r => s.seat r 0
  | .read r u => s.seat r u
  | .save r => { s with copies := s.copies ++ [(s.seats r).getD 0] }
  | .load r c => s.seat r (s.copies.getD c.toNat 0)
  | .wait => s
def WS.fits (s : WS) : Ev → Prop
  | .read r u => ∃ p, s.seats r = some p ∧ p < u ∧ u ≤ s.many
  | .save r => ∃ p, s.seats r = some p
  | .load _ c => 0 ≤ c ∧ c < s.copies.length
  | _ => True
def WS.run (s : WS) (es : List Ev) : WS := es.foldl WS.step s
def Valid : WS → List Ev → Prop
  | _, [] => True
  | s, e :: es => s.fits e ∧ Valid (s.step e) es
theorem run_append (s : WS) (a b : List Ev) : s.run (a ++ b) = (s.run a).run b := by unfold WS.run; rw [List.foldl_append]
theorem run_snoc (s : WS) (a : List Ev) (e : Ev) : s.run (a ++ [e]) = (s.run a).step e := by rw [run_append]; rfl
theorem valid_append : ∀ {s : WS} {a b : List Ev}, Valid s (a ++ b) ↔ Valid s a ∧ Valid (s.run a) b
  | s, [], b => ⟨fun h => ⟨True.intro, h⟩, fun h => h.2⟩
  | s, e :: a, b => by
    have ih := @valid_append (s.step e) a b
    constructor
    · intro h
      exact ⟨⟨h.1, (ih.mp h.2).1⟩, (ih.mp h.2).2⟩
    · intro h
      exact ⟨h.1.1, ih.mpr ⟨h.1.2, h.2⟩⟩
theorem valid_snoc {s : WS} {a : List Ev} {e : Ev} (h : Valid s a) (f : (s.run a).fits e) : Valid s (a ++ [e]) := valid_append.mpr ⟨h, f, True.intro⟩
theorem valid_take {s : WS} {a : List Ev} (h : Valid s a) (i : Nat) {e : Ev} (he : a[i]? = some e) : (s.run (a.take i)).fits e := by
  have q : a = a.take i ++ a.drop i := (List.take_append_drop i a).symm
  rw [q] at h
  have h2 := (valid_append.mp h).2
  obtain ⟨hi, e1⟩ := List.getElem?_eq_some_iff.mp he
  rw [List.drop_eq_getElem_cons hi, e1] at h2
  exact h2.1
theorem take_snoc {α : Type} {a : List α} {i : Nat} {e : α} (he : a[i]? = some e) : a.take (i + 1) = a.take i ++ [e] := by rw [List.take_add_one, he]; rfl
/-- whoever is somewhere stays somewhere -/
theorem step_some {s : WS} {e : Ev} {r : Int} (h : (s.seats r).isSome = true) : ((s.step e).seats r).isSome = true := by
  cases e <;> simp only [WS.step, WS.seat] <;> first | exact h | (split <;> first | rfl | exact h)
theorem run_some {r : Int} : ∀ {s : WS} {es : List Ev}, (s.seats r).isSome = true → ((s.run es).seats r).isSome = true
  | s, [], h => h
  | s, e :: es, h => run_some (s := s.step e) (es := es) (step_some h)

/-! ### the law's dict of these -/
abbrev wK (sd cl : Addr) (m : Int) : List (Key × V) := [(.inr "seats", .ref sd), (.inr "copies", .ref cl), (.inr "many", .int m)]
def SeatsAt (H : Hp) (sd : Addr) (f : Int → Option Int) (n : Nat) : Prop := ∃ (kvs : List (Key × V)) (ks : List Int), H sd = some (.dK kvs) ∧ kvs.map (·.1) = ks.map Sum.inl ∧ ks.Nodup ∧ ks.length ≤ n ∧ (∀ r, r ∈ ks ↔ (f r).isSome = true) ∧ ∀ r, valV kvs (.inl r) = (f r).map V.int
structure WAt (H : Hp) (w sd cl : Addr) (st : WS) (n : Nat) : Prop where
  w : H w = some (.dK (wK sd cl st.many))
  s : SeatsAt H sd st.seats n
  c : H cl = some (.lst (st.copies.map V.int))
  cn : st.copies.length ≤ n
theorem WAt.keep {H H' : Hp} {w sd cl : Addr} {st : WS} {n : Nat} {M : List Addr} (h : WAt H w sd cl st n) (g : Gr M H H') (h1 : w ∉ M) (h2 : sd ∉ M) (h3 : cl ∉ M) : WAt H' w sd cl st n := by
  obtain ⟨hw, ⟨kvs, ks, hs, r⟩, hc, cn⟩ := h
  exact ⟨g.keep _ _ h1 hw, ⟨kvs, ks, g.keep _ _ h2 hs, r⟩, g.keep _ _ h3 hc, cn⟩
theorem WAt.mono {H : Hp} {w sd cl : Addr} {st : WS} {n m : Nat} (h : WAt H w sd cl st n) (l : n ≤ m) : WAt H w sd cl st m := by
  obtain ⟨hw, ⟨kvs, ks, hs, r1, r2, r3, r4⟩, hc, cn⟩ := h
  exact ⟨hw, ⟨kvs, ks, hs, r1, r2, by omega, r4⟩, hc, by omega⟩
theorem SeatsAt.keys {H : Hp} {sd : Addr} {f : Int → Option Int} {n : Nat} {kvs : List (Key × V)} (h : SeatsAt H sd f n) (e : H sd = some (.dK kvs)) : ∀ k ∈ kvs.map (·.1), ∃ i, k = Sum.inl i := by
  obtain ⟨kvs', ks, hs, r1, _⟩ := h
  rw [e] at hs
  cases hs
  intro k hk
  rw [r1] at hk
  obtain ⟨i, _, q⟩ := List.mem_map.mp hk
  exact ⟨i, q.symm⟩
theorem WAt.ne1 {H : Hp} {w sd cl : Addr} {st : WS} {n : Nat} (h : WAt H w sd cl st n) : w ≠ sd := fun e => by
  have hw := h.w
  rw [e] at hw
  obtain ⟨i, q⟩ := h.s.keys hw (.inr "seats") (by simp)
  cases q
theorem WAt.ne2 {H : Hp} {w sd cl : Addr} {st : WS} {n : Nat} (h : WAt H w sd cl st n) : w ≠ cl := ne_of h.w h.c (by intro q; cases q)
theorem WAt.ne3 {H : Hp} {w sd cl : Addr} {st : WS} {n : Nat} (h : WAt H w sd cl st n) : sd ≠ cl := by
  obtain ⟨kvs, ks, hs, _⟩ := h.s
  exact ne_of hs h.c (by intro q; cases q)
theorem s_sc : ¬ (("seats" : Str) = "copies") := by decide +kernel
theorem s_sm : ¬ (("seats" : Str) = "many") := by decide +kernel
theorem s_cm : ¬ (("copies" : Str) = "many") := by decide +kernel
theorem k_sc : ¬ ((Sum.inr ("seats" : Str) : Key) = (Sum.inr ("copies" : Str) : Key)) := fun e => s_sc (Sum.inr.inj e)
theorem k_sm : ¬ ((Sum.inr ("seats" : Str) : Key) = (Sum.inr ("many" : Str) : Key)) := fun e => s_sm (Sum.inr.inj e)
theorem k_cm : ¬ ((Sum.inr ("copies" : Str) : Key) = (Sum.inr ("many" : Str) : Key)) := fun e => s_cm (Sum.inr.inj e)
theorem wK_seats {sd cl : Addr} {m : Int} : valV (wK sd cl m) (.inr "seats") = some (.ref sd) := valV_pos rfl
theorem wK_copies {sd cl : Addr} {m : Int} : valV (wK sd cl m) (.inr "copies") = some (.ref cl) := (valV_neg k_sc).trans (valV_pos rfl)
theorem wK_many {sd cl : Addr} {m : Int} : valV (wK sd cl m) (.inr "many") = some (.int m) := (valV_neg k_sm).trans ((valV_neg k_cm).trans (valV_pos rfl))
theorem wK_put {sd cl : Addr} {m j : Int} : putK (wK sd cl m) (.inr "many") (.int j) = wK sd cl j := by
  unfold putK wK
  simp [s_sm, s_cm]
theorem wK_merge {sd cl : Addr} {m : Int} : mergeK [] (wK sd cl m) = wK sd cl m := by
  unfold mergeK wK
  simp only [List.foldl_cons, List.foldl_nil]
  have e1 : putK ([] : List (Key × V)) (.inr "seats") (.ref sd) = [(.inr "seats", .ref sd)] := rfl
  rw [e1, putK_new _ ((valV_neg k_sc).trans valV_nil)]
  rw [putK_new _ (by exact (valV_neg k_sm).trans ((valV_neg k_cm).trans valV_nil))]
  rfl
theorem SeatsAt.put {H : Hp} {sd : Addr} {f : Int → Option Int} {n : Nat} {kvs : List (Key × V)} {r p : Int} (h : SeatsAt H sd f n) (e : H sd = some (.dK kvs)) :
    SeatsAt (upd H sd (.dK (putK kvs (.inl r) (.int p)))) sd (fun i => if i = r then some p else f i) (n + 1) := by
  obtain ⟨kvs', ks, hs, r1, r2, r3, r4, r5⟩ := h
  rw [e] at hs
  cases hs
  by_cases hr : r ∈ ks
  · refine ⟨_, ks, upd_same, ?_, r2, by omega, fun i => ?_, fun i => ?_⟩
    · rw [← r1]
      unfold putK
      rw [if_pos]
      · rw [List.map_map]
        refine List.map_congr_left fun x _ => ?_
        show (if x.1 = Sum.inl r then (x.1, V.int p) else x).1 = x.1
        split <;> rfl
      · have : (Sum.inl r : Key) ∈ kvs.map (·.1) := by rw [r1]; exact List.mem_map.mpr ⟨r, hr, rfl⟩
        obtain ⟨x, hx, q⟩ := List.mem_map.mp this
        exact List.any_eq_true.mpr ⟨x, hx, decide_eq_true q⟩
    · show i ∈ ks ↔ (if i = r then some p else f i).isSome = true
      by_cases q : i = r
      · subst q; simp [hr]
      · rw [if_neg q]; exact r4 i
    · rw [valV_put]
      by_cases q : i = r
      · subst q; simp
      · rw [if_neg (fun z => q (Sum.inl.inj z)), r5 i]
        show _ = Option.map V.int (if i = r then some p else f i)
        rw [if_neg q]
  · have hv : valV kvs (.inl r) = none := by
      rw [r5]
      cases q : f r with
      | none => rfl
      | some z => exact (hr ((r4 r).mpr (by rw [q]; rfl))).elim
    refine ⟨_, ks ++ [r], upd_same, ?_, nd_snoc r2 hr, by rw [List.length_append, List.length_singleton]; omega, fun i => ?_, fun i => ?_⟩
    · rw [putK_new _ hv, List.map_append, List.map_append, r1]
      rfl
    · show i ∈ ks ++ [r] ↔ (if i = r then some p else f i).isSome = true
      rw [List.mem_append, List.mem_singleton]
      by_cases q : i = r
      · subst q; simp
      · rw [if_neg q]
        constructor
        · intro z; exact (r4 i).mp (z.resolve_right q)
        · intro z; exact .inl ((r4 i).mpr z)
    · rw [valV_put]
      by_cases q : i = r
      · subst q; simp
      · rw [if_neg (fun z => q (Sum.inl.inj z)), r5 i]
        show _ = Option.map V.int (if i = r then some p else f i)
        rw [if_neg q]
section
variable {H : Hp} {w sd cl : Addr} {st : WS} {n : Nat}
theorem WAt.g_seats (h : WAt H w sd cl st n) : DGet H w (.str "seats") (some (.ref sd)) := by
  have q := DGet.k (k := .inr "seats") h.w
  rw [wK_seats] at q
  exact q
theorem WAt.g_copies (h : WAt H w sd cl st n) : DGet H w (.str "copies") (some (.ref cl)) := by
  have q := DGet.k (k := .inr "copies") h.w
  rw [wK_copies] at q
  exact q
theorem WAt.g_many (h : WAt H w sd cl st n) : DGet H w (.str "many") (some (.int st.many)) := by
  have q := DGet.k (k := .inr "many") h.w
  rw [wK_many] at q
  exact q
theorem WAt.g_seat (h : WAt H w sd cl st n) (r : Int) : DGet H sd (.int r) ((st.seats r).map V.int) := by
  obtain ⟨kvs, ks, hs, _, _, _, _, h5⟩ := h.s
  have q := DGet.k (k := .inl r) hs
  rw [h5] at q
  exact q
theorem WAt.p_many (h : WAt H w sd cl st n) (j : Int) : DPut H w (.str "many") (.int j) (upd H w (.dK (wK sd cl j))) := by
  have q := DPut.k (k := .inr "many") (v := .int j) h.w (by show 3 < sizeLine; decide)
  rw [wK_put] at q
  exact q
theorem WAt.many (h : WAt H w sd cl st n) (j : Int) : WAt (upd H w (.dK (wK sd cl j))) w sd cl { st with many := j } n := by
  obtain ⟨kvs, ks, hs, r⟩ := h.s
  exact ⟨upd_same, ⟨kvs, ks, by rw [upd_ne h.ne1.symm]; exact hs, r⟩, by rw [upd_ne h.ne2.symm]; exact h.c, h.cn⟩
theorem WAt.p_seat (h : WAt H w sd cl st n) (hn : n ≤ 1000) (r p : Int) : ∃ o, DPut H sd (.int r) (.int p) (upd H sd o) ∧ WAt (upd H sd o) w sd cl (st.seat r p) (n + 1) ∧ Gr [w, sd, cl] H (upd H sd o) := by
  obtain ⟨kvs, ks, hs, q1, q2, q3, q4⟩ := id h.s
  have hl : kvs.length < sizeLine := by
    have e : kvs.length = ks.length := by rw [← List.length_map (f := (·.1)), q1, List.length_map]
    rw [e]
    exact Nat.lt_of_le_of_lt (Nat.le_trans q3 hn) (by decide)
  refine ⟨_, DPut.k (k := .inl r) hs hl, ⟨?_, h.s.put hs, ?_, Nat.le_succ_of_le h.cn⟩, Gr.mutD hs (by simp)⟩
  · rw [upd_ne h.ne1]; exact h.w
  · rw [upd_ne h.ne3.symm]; exact h.c
end
/-! ### data: how deep, and that it can be compared -/
def Sh (d : PyData) (n : Nat) : Prop := d.canLay0 = true ∧ d.depth ≤ n
def ShA (ds : List PyData) (n : Nat) : Prop := PyData.canLayAll0 ds = true ∧ PyData.depthAll ds ≤ n
theorem ShA.nil {n : Nat} : ShA [] n := ⟨by simp [PyData.canLayAll0], by simp [PyData.depthAll]⟩
theorem ShA.cons {d : PyData} {ds : List PyData} {n : Nat} (h : Sh d n) (t : ShA ds n) : ShA (d :: ds) n := ⟨by simp [PyData.canLayAll0, h.1, t.1], by
  have h1 := h.2
  have h2 := t.2
  simp only [PyData.depthAll]
  omega⟩
theorem ShA.of : ∀ {ds : List PyData} {n : Nat}, (∀ d ∈ ds, Sh d n) → ShA ds n
  | [], _, _ => .nil
  | d :: ds, n, h => .cons (h d (by simp)) (ShA.of fun e he => h e (by simp [he]))
theorem ShA.append : ∀ {a b : List PyData} {n : Nat}, ShA a n → ShA b n → ShA (a ++ b) n
  | [], b, n, _, h => h
  | d :: a, b, n, h, h' => by
    have h1 := h.1
    have h2 := h.2
    simp only [PyData.canLayAll0, Bool.and_eq_true] at h1
    simp only [PyData.depthAll] at h2
    exact .cons ⟨h1.1, by omega⟩ (ShA.append ⟨h1.2, by omega⟩ h')
theorem ShA.list {ds : List PyData} {n : Nat} (h : ShA ds n) : Sh (.list ds) (n + 1) := ⟨by simp only [PyData.canLay0]; exact h.1, by simp only [PyData.depth]; have := h.2; omega⟩
theorem ShA.tuple {ds : List PyData} {n : Nat} (h : ShA ds n) : Sh (.tuple ds) (n + 1) := ⟨by simp only [PyData.canLay0]; exact h.1, by simp only [PyData.depth]; have := h.2; omega⟩
theorem Sh.int {i : Int} {n : Nat} : Sh (.int i) n := ⟨by simp [PyData.canLay0], by simp [PyData.depth]⟩
theorem Sh.none {n : Nat} : Sh .none n := ⟨by simp [PyData.canLay0], by simp [PyData.depth]⟩
theorem Sh.str {x : Str} {n : Nat} (h : PyData.strOk x = true) : Sh (.str x) n := ⟨by simp only [PyData.canLay0]; exact h, by simp [PyData.depth]⟩
theorem Sh.mono {d : PyData} {n m : Nat} (h : Sh d n) (l : n ≤ m) : Sh d m := ⟨h.1, Nat.le_trans h.2 l⟩
theorem ShA.mono {d : List PyData} {n m : Nat} (h : ShA d n) (l : n ≤ m) : ShA d m := ⟨h.1, Nat.le_trans h.2 l⟩
theorem Sh.shaped {d : PyData} {n : Nat} (h : Sh d n) (l : n ≤ 64 := by decide) : SeqAt.shaped d = true := by
  unfold SeqAt.shaped
  rw [h.1, decide_eq_true (Nat.le_trans h.2 l)]
  rfl
theorem ShA.ints {n : Nat} : ∀ ns : List Int, ShA (ns.map PyData.int) n
  | [] => .nil
  | i :: r => .cons .int (ShA.ints r)
/-- a list of data beside a new empty one -/
theorem w_neNil {K : PySem.W.Frag} {H : Hp} {Q : VK} {a p : Addr} {xs : List V} {ds : List PyData} {n : Nat} (h : SqL K H a xs) (hd : DpAll K H xs ds) (hs : ShA ds n) (l : n ≤ 63 := by decide) (he : H p = some (.lst [])) (k : Q (.bl (!ds.isEmpty)) H) : rNeD K (.ref a) (.ref p) H Q :=
  ⟨.list ds, .list [], .lst h hd, .lst (SqL.of he) .nil, hs.list.shaped (by omega), (ShA.nil (n := 0)).list.shaped, by
    have e : PyData.eqv (.list ds) (.list []) = ds.isEmpty := by cases ds <;> simp [PyData.eqv, PyData.eqvAll]
    rw [e]
    exact k⟩
/-- a list of ints beside a new empty one -/
theorem dp_ints {K : PySem.W.Frag} {H : Hp} : ∀ ns : List Int, DpAll K H (ns.map V.int) (ns.map PyData.int)
  | [] => .nil
  | i :: r => .cons (.int i) (dp_ints r)
end PK

set_option Elab.async false
set_option linter.all false
set_option maxRecDepth 100000
/-! A def that stands at its name and keeps a promise. -/
namespace PK
open PySem L2
/-- a def of the text stands at its name -/
structure Df (K : PySem.W.Frag) (mg : Str → Option Value) (x : Str) (st : Stmt) (ps : List Str) : Prop where
  ex : ∃ f fd, Fun K x x st f fd ∧ mg x = some (.ref f) ∧ Binds K fd ps []
/-- .. and keeps its promise -/
structure Has (P : Program) (w : World) (K : PySem.W.Frag) (mg : Str → Option Value) (base : Heap) (k : Nat) (x : Str) (ps : List Str) (sp : Sp) : Prop where
  ex : ∃ f fd, FnOk P w K mg base CX0 k f fd ps sp ∧ mg x = some (.ref f) ∧ PySem.W.keepIn K (.ref f) = true ∧ Binds K fd ps []
section
variable {P : Program} {w : World} {K : PySem.W.Frag} {mg : Str → Option Value} {base : Heap}
theorem Has.mk' {k : Nat} {x : Str} {st : Stmt} {ps : List Str} {sp : Sp} (D : Df K mg x st ps) (h : ∀ f fd, Fun K x x st f fd → FnOk P w K mg base CX0 k f fd ps sp) : Has P w K mg base k x ps sp := by
  obtain ⟨f, fd, F, m, b⟩ := D.ex
  exact ⟨f, fd, h f fd F, m, F.kp, b⟩
theorem Has.mono {j k : Nat} {x : Str} {ps : List Str} {sp : Sp} (h : Has P w K mg base j x ps sp) (l : j ≤ k) : Has P w K mg base k x ps sp := by
  obtain ⟨f, fd, F, r⟩ := h.ex
  exact ⟨f, fd, F.mono l, r⟩
theorem Has.imp {k : Nat} {x : Str} {ps : List Str} {sp sp' : Sp} (h : Has P w K mg base k x ps sp) (i : ∀ vs H Q E, sp' vs H Q E → sp vs H Q E) : Has P w K mg base k x ps sp' := by
  obtain ⟨f, fd, F, r⟩ := h.ex
  exact ⟨f, fd, F.imp i, r⟩
end
section
variable {X : Cx} {k : Nat} {x : Str} {ps : List Str} {sp : Sp} {e : Expr} {es : List Expr} {pos p : Pos} {t : TA}
theorem pe_callH (D : Has X.prog X.w X.K X.mg X.base k x ps sp) (hr : Room k X.A) (hg : Gl X x) (ha : PA X (e :: es) t) (hdb : (x == ("__debug__" : Str)) = false := by decide)
    (he : starEach (e :: es) X.env = (false, eval e X.env) :: starEach es X.env := by rfl) (hpl : (backTo pos (starEach es X.env)).any (·.1) = false := by rfl) :
    PE X (.Call (.Name x p) (e :: es) [] pos) (tCall sp [] E0 t) := by
  obtain ⟨f, fd, F, m, kp, b⟩ := D.ex
  exact pe_call F hr hg m kp b .nil pass0 ha hdb he hpl
end
/-! ### rules that read lists, with the written part K told: for a comprehension's block -/
section
variable {X : Cx} {K : PySem.W.Frag}
theorem ix_listK (hK : X.K = K := by rfl) : IxR X (rIxL K) := by subst hK; exact ix_list
theorem ix_tupK (hK : X.K = K := by rfl) : IxR X (rIxT K) := by subst hK; exact ix_tup
theorem ix_seqK (hK : X.K = K := by rfl) : IxR X (rIx K) := by subst hK; exact ix_seq
theorem op_in_seqK (hK : X.K = K := by rfl) : OpR X (compareOp .In) (rIn K false) := by subst hK; exact op_in_seq
theorem op_notIn_seqK (hK : X.K = K := by rfl) : OpR X (compareOp .NotIn) (rIn K true) := by subst hK; exact op_notIn_seq
theorem op_eqDK (hu : X.A.units + 64 < cLine) (hK : X.K = K := by rfl) : OpR X (compareOp .Eq) (rEqD K) := by subst hK; exact op_eqD hu
theorem op_neDK (hu : X.A.units + 64 < cLine) (hK : X.K = K := by rfl) : OpR X (compareOp .NotEq) (rNeD K) := by subst hK; exact op_neD hu
theorem sl_listK (hK : X.K = K := by rfl) : SlR X (rSlL K) := by subst hK; exact sl_list
theorem sl_tupAK (hK : X.K = K := by rfl) : SlR X (rSlA K) := by subst hK; exact sl_tupA
theorem op_catAK (hK : X.K = K := by rfl) : OpR X (binaryOp .Add) (rCatA K) := by subst hK; exact op_catA
def rLenQ (K : PySem.W.Frag) : List V → Hp → VK → Prop := fun xs H Q => ∃ p ys, xs = [.ref p] ∧ (SqL K H p ys ∨ SqT K H p ys) ∧ Q (.int ys.length) H
theorem call_len_seqK (hK : X.K = K := by rfl) : CallR X (.builtin "len") (rLenQ K) := by subst hK; exact call_len_seq
def rListQ (K : PySem.W.Frag) : List V → Hp → VK → Prop := fun xs H Q => ∃ p ys, xs = [.ref p] ∧ (SqL K H p ys ∨ SqT K H p ys) ∧ ∀ l, H l = none → Q (.ref l) (upd H l (.lst ys))
theorem call_list_ofK (hK : X.K = K := by rfl) : CallR X (.type "list") (rListQ K) := by subst hK; exact call_list_of
def rTupQ (K : PySem.W.Frag) : List V → Hp → VK → Prop := fun xs H Q => ∃ p ys, xs = [.ref p] ∧ ((SqL K H p ys ∧ ∀ l, H l = none → Q (.ref l) (upd H l (.tup ys))) ∨ (SqT K H p ys ∧ Q (.ref p) H))
theorem call_tuple_ofK (hK : X.K = K := by rfl) : CallR X (.type "tuple") (rTupQ K) := by subst hK; exact call_tuple_of
theorem cr_sumK (hc : X.calm = true) (hK : X.K = K := by rfl) : CallR X (.builtin "sum") (rSum K) := by subst hK; exact cr_sum hc
theorem cr_allK (hc : X.calm = true) (hK : X.K = K := by rfl) : CallR X (.builtin "all") (rAll K) := by subst hK; exact cr_all hc
theorem cr_anyK (hc : X.calm = true) (hK : X.K = K := by rfl) : CallR X (.builtin "any") (rAny K) := by subst hK; exact cr_any hc
theorem call_isiK' (hK : X.K = K := by rfl) : CallR X (.builtin "isinstance") (rIsi K) := by subst hK; exact call_isi
theorem call_isiTK (hK : X.K = K := by rfl) : CallR X (.builtin "isinstance") (rIsiT K) := by subst hK; exact call_isiT
theorem cr_sortedIK (hK : X.K = K := by rfl) : CallR X (.builtin "sorted") (rSortedI K) := by subst hK; exact cr_sortedI
end
end PK

set_option Elab.async false
set_option linter.all false
set_option maxRecDepth 100000
/-! Loops and comprehensions, by a word of the turn; the law's dict made. -/
namespace PK
open PySem L2
section
variable {K : PySem.W.Frag} {σ : L2.St} {H : Hp} {Q : VK} {D : Ends} {J : It} {g : TG} {tb : TS} {wi : TI} {tt : TT} {te : TE} {vs : List Nat} {n : Nat} {G : Hp → Prop} {Y : Nat → Hp → V → Hp → Prop}
/-- a for over J, said once -/
def Lp (J : It) (g : TG) (tb : TS) (D : Ends) (σ : L2.St) (H : Hp) : Prop := ∃ W : Nat → Nat → L2.St → Hp → Prop, (∃ m, W 0 m σ H) ∧ ∀ i m σ H, W i m σ H →
  (J.stop i H ∧ D.nx σ H) ∨ (J.go i H ∧ ∃ N : L2.St → Hp → Prop, (∀ σ' H', N σ' H' → ∃ m', m' < m ∧ W (i + 1) m' σ' H') ∧ ∀ x H', J.yld i H x H' → g x σ H' fun σ2 H2 => tb { D with nx := N, ct := N, bk := D.nx } σ2 H2)
theorem w_for (k : wi σ H fun J H1 => Lp J g tb D σ H1) : tFor wi g tb D σ H := k
theorem lp_it (w : Walk J n G Y) (Pv : Nat → L2.St → Hp → Prop) (h0 : Pv 0 σ H) (hG : ∀ i σ H, i ≤ n → Pv i σ H → G H)
    (hs : ∀ i x σ H H', i < n → Pv i σ H → Y i H x H' → g x σ H' fun σ2 H2 => tb { D with nx := Pv (i + 1), ct := Pv (i + 1), bk := D.nx } σ2 H2) (hd : ∀ σ H, Pv n σ H → D.nx σ H) : Lp J g tb D σ H := for_it w Pv h0 hG hs hd
theorem lp_range {lo : Int} (Pv : Nat → L2.St → Hp → Prop) (h0 : Pv 0 σ H)
    (hs : ∀ i σ H, i < n → Pv i σ H → g (.int (lo + i)) σ H fun σ2 H2 => tb { D with nx := Pv (i + 1), ct := Pv (i + 1), bk := D.nx } σ2 H2) (hd : ∀ σ H, Pv n σ H → D.nx σ H) : Lp (Itr lo n) g tb D σ H := for_range Pv h0 hs hd
theorem lp_list {a : Addr} {xs : List V} (Pv : Nat → L2.St → Hp → Prop) (h0 : Pv 0 σ H) (hl : ∀ i σ H, i ≤ xs.length → Pv i σ H → SqL K H a xs)
    (hs : ∀ i x σ H, xs[i]? = some x → Pv i σ H → g x σ H fun σ2 H2 => tb { D with nx := Pv (i + 1), ct := Pv (i + 1), bk := D.nx } σ2 H2) (hd : ∀ σ H, Pv xs.length σ H → D.nx σ H) : Lp (Itl K a) g tb D σ H := for_list Pv h0 hl hs hd
theorem lp_tup {a : Addr} {xs : List V} (Pv : Nat → L2.St → Hp → Prop) (h0 : Pv 0 σ H) (hl : ∀ i σ H, i ≤ xs.length → Pv i σ H → SqT K H a xs)
    (hs : ∀ i x σ H, xs[i]? = some x → Pv i σ H → g x σ H fun σ2 H2 => tb { D with nx := Pv (i + 1), ct := Pv (i + 1), bk := D.nx } σ2 H2) (hd : ∀ σ H, Pv xs.length σ H → D.nx σ H) : Lp (Itt K a) g tb D σ H := for_tup Pv h0 hl hs hd
/-- a comprehension over J, said once -/
def Lc (J : It) (g : TG) (tt : TT) (te : TE) (vs : List Nat) (σ : L2.St) (H1 : Hp) (Q : VK) : Prop := ∀ D, H1 D = none → ∃ W : Nat → Nat → Hp → Prop, (∃ m, W 0 m (upd H1 D (.lst []))) ∧ ∀ i m H, W i m H →
  (J.stop i H ∧ Q (.ref D) H) ∨ (J.go i H ∧ ∃ Nx : Hp → Prop, (∀ H', Nx H' → ∃ m', m' < m ∧ W (i + 1) m' H') ∧ ∀ x H', J.yld i H x H' → g x (wipe σ vs) H' fun σ2 H2 => wipe σ2 vs = wipe σ vs ∧ tt σ2 H2 fun b H3 =>
    if b = true then te σ2 H3 fun y H4 => ∃ acc, H4 D = some (.lst acc) ∧ acc.length < sizeLine ∧ Nx (upd H4 D (.lst (acc ++ [y]))) else Nx H3)
theorem w_lc (k : wi σ H fun J H1 => Lc J g tt te vs σ H1 Q) : tLc wi g tt te vs σ H Q := k
/-- R: by the new list's address, the turn, what it holds, the heap -/
def LcW (R : Addr → Nat → List V → Hp → Prop) (D : Addr) (i : Nat) (H : Hp) : Prop := ∃ acc, H D = some (.lst acc) ∧ acc.length ≤ i ∧ R D i acc H
def LcY (R : Addr → Nat → List V → Hp → Prop) (D : Addr) (i : Nat) (y : V) (H : Hp) : Prop := ∃ acc, H D = some (.lst acc) ∧ acc.length < sizeLine ∧ LcW R D (i + 1) (upd H D (.lst (acc ++ [y])))
theorem lc_yes {R : Addr → Nat → List V → Hp → Prop} {D : Addr} {i : Nat} {y : V} {acc : List V} {H : Hp} (h : H D = some (.lst acc)) (l : acc.length ≤ i) (hi : i < 100000) (r : R D (i + 1) (acc ++ [y]) (upd H D (.lst (acc ++ [y])))) : LcY R D i y H :=
  ⟨acc, h, Nat.lt_of_le_of_lt l (Nat.lt_of_lt_of_le hi (by decide)), acc ++ [y], upd_same, by rw [List.length_append, List.length_singleton]; omega, r⟩
theorem lc_no {R : Addr → Nat → List V → Hp → Prop} {D : Addr} {i : Nat} {acc : List V} {H : Hp} (h : H D = some (.lst acc)) (l : acc.length ≤ i) (r : R D (i + 1) acc H) : LcW R D (i + 1) H := ⟨acc, h, by omega, r⟩
theorem lc_go (w : Walk J n G Y) (R : Addr → Nat → List V → Hp → Prop) (h0 : ∀ D, H D = none → R D 0 [] (upd H D (.lst []))) (hG : ∀ D i acc H', i ≤ n → R D i acc H' → G H')
    (hs : ∀ D i acc x H' H2, H D = none → i < n → H' D = some (.lst acc) → acc.length ≤ i → R D i acc H' → Y i H' x H2 → g x (wipe σ vs) H2 fun σ2 H3 => wipe σ2 vs = wipe σ vs ∧ tt σ2 H3 fun b H4 =>
      if b = true then te σ2 H4 fun y H5 => LcY R D i y H5 else LcW R D (i + 1) H4)
    (hd : ∀ D acc H', H D = none → H' D = some (.lst acc) → acc.length ≤ n → R D n acc H' → Q (.ref D) H') : Lc J g tt te vs σ H Q := fun D hD =>
  lc_it w (fun i H' => LcW R D i H') ⟨[], upd_same, Nat.le_refl _, h0 D hD⟩ (fun i H' hi ⟨acc, _, _, r⟩ => hG D i acc H' hi r)
    (fun i x H' H2 hi ⟨acc, e, l, r⟩ y => hs D i acc x H' H2 hD hi e l r y) fun H' ⟨acc, e, l, r⟩ => hd D acc H' hD e l r
theorem w_rng1 {ta : TA} {R : It → Hp → Prop} (k : ta σ H fun vs H1 => ∃ j : Int, vs = [.int j] ∧ -(2 ^ 62) ≤ j ∧ j < 2 ^ 62 ∧ R (Itr 0 j.toNat) H1) : iRng1 ta σ H R := k
theorem w_itL {tl : TE} {R : It → Hp → Prop} (k : tl σ H fun x H1 => ∃ a, x = .ref a ∧ (∃ xs, SqL K H1 a xs) ∧ R (Itl K a) H1) : iList K tl σ H R := k
theorem w_itT {tl : TE} {R : It → Hp → Prop} (k : tl σ H fun x H1 => ∃ a, x = .ref a ∧ (∃ xs, SqT K H1 a xs) ∧ R (Itt K a) H1) : iTup K tl σ H R := k
theorem w_itS {te : TE} {R : It → Hp → Prop} (k : te σ H fun v H1 => ∃ x, v = .str x ∧ R (Its x) H1) : iStr te σ H R := k
theorem w_len {p : Addr} {xs : List V} (h : H p = some (.lst xs)) (k : Q (.int xs.length) H) : rLenQ K [.ref p] H Q := ⟨p, xs, rfl, .inl (SqL.of h), k⟩
theorem w_lenT {p : Addr} {xs : List V} (h : H p = some (.tup xs)) (k : Q (.int xs.length) H) : rLenQ K [.ref p] H Q := ⟨p, xs, rfl, .inr (SqT.of h), k⟩
theorem w_exR {P : Addr → Prop} {a : Addr} (k : P a) : ∃ b, V.ref a = .ref b ∧ P b := ⟨a, rfl, k⟩
/-- {'seats': {}, 'copies': [], 'many': 0} -/
theorem w_wdict (k : ∀ (w sd cl : Addr) (H' : Hp), H w = none → H sd = none → H cl = none → Gr [] H H' → WAt H' w sd cl .nil 0 → Q (.ref w) H') :
    tDisp [(tC (.str "seats"), tDNewK), (tC (.str "copies"), tLst tNil), (tC (.str "many"), tC (.int 0))] σ H Q := by
  intro w nw
  show ∀ sd, (upd H w (.dK [])) sd = none → _
  intro sd ns
  show 0 ≤ sizeLine ∧ ∀ cl, (upd (upd H w (.dK [])) sd (.dK [])) cl = none → _
  refine ⟨Nat.zero_le _, fun cl nc => ?_⟩
  have e1 : sd ≠ w := fun e => by rw [e, upd_same] at ns; cases ns
  have e2 : cl ≠ sd := fun e => by rw [e, upd_same] at nc; cases nc
  have e3 : cl ≠ w := fun e => by rw [e, upd_ne e1.symm, upd_same] at nc; cases nc
  have ns0 : H sd = none := by rw [upd_ne e1] at ns; exact ns
  have nc0 : H cl = none := by rw [upd_ne e2, upd_ne e3] at nc; exact nc
  refine ⟨by rw [upd_ne e3.symm, upd_ne e1.symm, upd_same], wK sd cl 0, rfl, by show 3 ≤ 15; decide, ?_⟩
  rw [wK_merge]
  refine k w sd cl _ nw ns0 nc0 ?_ ⟨upd_same, ⟨[], [], ?_, rfl, .nil, Nat.le_refl _, fun r => by simp [WS.nil], fun r => rfl⟩, ?_, Nat.le_refl _⟩
  · refine Gr.of_ex fun a o h => ?_
    have a1 : a ≠ w := ne_of_none h nw
    have a2 : a ≠ sd := ne_of_none h ns0
    have a3 : a ≠ cl := ne_of_none h nc0
    rw [upd_ne a1, upd_ne a3, upd_ne a2, upd_ne a1]
    exact h
  · rw [upd_ne e1, upd_ne e2.symm, upd_same]
  · rw [upd_ne e3, upd_same]
    rfl
theorem w_disp {trs : List (TE × TE)} (k : tDisp trs σ H Q) : tDisp trs σ H Q := k
end
/-! ### lists of flat tuples -/
def IsTp (H : Hp) (v : V) (xs : List V) : Prop := ∃ a, v = .ref a ∧ H a = some (.tup xs)
abbrev Tps (H : Hp) : List V → List (List V) → Prop := Paired (IsTp H)
theorem IsTp.gr {H H' : Hp} {M : List Addr} {v : V} {xs : List V} (h : IsTp H v xs) (g : Gr M H H') : IsTp H' v xs := by
  obtain ⟨a, q, h⟩ := h
  exact ⟨a, q, g.tup a _ h⟩
theorem Tps.gr {H H' : Hp} {M : List Addr} {xs : List V} {ys : List (List V)} (h : Tps H xs ys) (g : Gr M H H') : Tps H' xs ys := Paired.mono (fun _ _ q => q.gr g) h
/-- a plain value as data -/
def atomD : V → PyData
  | .bl b => .bool b
  | .int i => .int i
  | .str x => .str x
  | _ => .none
def Atom : V → Prop
  | .non => True
  | .bl _ => True
  | .int _ => True
  | .str x => PyData.strOk x = true
  | _ => False
theorem Atom.dp {K : PySem.W.Frag} {H : Hp} : ∀ {x : V}, Atom x → Dp K H x (atomD x)
  | .non, _ => .non
  | .bl b, _ => .bl b
  | .int i, _ => .int i
  | .str x, _ => .str x
theorem Atom.sh {n : Nat} : ∀ {x : V}, Atom x → Sh (atomD x) n
  | .non, _ => .none
  | .bl b, _ => ⟨by simp [atomD, PyData.canLay0], by simp [atomD, PyData.depth]⟩
  | .int i, _ => .int
  | .str x, h => .str h
theorem atoms_dp {K : PySem.W.Frag} {H : Hp} : ∀ {xs : List V}, (∀ x ∈ xs, Atom x) → DpAll K H xs (xs.map atomD)
  | [], _ => .nil
  | x :: xs, h => .cons (h x (by simp)).dp (atoms_dp fun y hy => h y (by simp [hy]))
theorem atoms_sh {n : Nat} : ∀ {xs : List V}, (∀ x ∈ xs, Atom x) → ShA (xs.map atomD) n
  | [], _ => .nil
  | x :: xs, h => .cons (h x (by simp)).sh (atoms_sh fun y hy => h y (by simp [hy]))
def tpD (xs : List V) : PyData := .tuple (xs.map atomD)
theorem tps_dp {K : PySem.W.Frag} {H : Hp} : ∀ {vs : List V} {ys : List (List V)}, Tps H vs ys → (∀ y ∈ ys, ∀ x ∈ y, Atom x) → DpAll K H vs (ys.map tpD)
  | _, _, .nil, _ => .nil
  | _, _, .cons ⟨a, e, h⟩ t, f => by
    subst e
    exact .cons (.tup (SqT.of h) (atoms_dp (f _ (by simp)))) (tps_dp t fun y hy => f y (by simp [hy]))
theorem tps_sh {n : Nat} : ∀ {ys : List (List V)}, (∀ y ∈ ys, ∀ x ∈ y, Atom x) → ShA (ys.map tpD) (n + 1)
  | [], _ => .nil
  | y :: ys, f => .cons (atoms_sh (n := n) (f y (by simp))).tuple (tps_sh fun z hz => f z (by simp [hz]))
/-! ### the entries of a row of events -/
def Ev.kok : Ev → Prop
  | .put k _ => KeyOk k
  | .drop k => KeyOk k
  | _ => True
theorem Ev.ok_kok {e : Ev} (h : e.ok) : e.kok := by cases e <;> first | exact h.1 | exact h | trivial
def Ev.row (i : Nat) : Ev → List (List V)
  | .put k v => [[.int (i : Nat), .str k, .int v]]
  | .drop k => [[.int (i : Nat), .str k, .non]]
  | _ => []
def rowsV : Nat → List Ev → List (List V)
  | _, [] => []
  | i, e :: es => e.row i ++ rowsV (i + 1) es
theorem rowsV_append : ∀ (a b : List Ev) (i : Nat), rowsV i (a ++ b) = rowsV i a ++ rowsV (i + a.length) b
  | [], _, _ => rfl
  | e :: a, b, i => by
    show e.row i ++ rowsV (i + 1) (a ++ b) = (e.row i ++ rowsV (i + 1) a) ++ rowsV (i + (a.length + 1)) b
    rw [rowsV_append a b (i + 1), List.append_assoc]
    have z : i + 1 + a.length = i + (a.length + 1) := by omega
    rw [z]
theorem rowsV_take {es : List Ev} {i : Nat} {e : Ev} (he : es[i]? = some e) : rowsV 0 (es.take (i + 1)) = rowsV 0 (es.take i) ++ e.row i := by
  have hi : i < es.length := (List.getElem?_eq_some_iff.mp he).1
  rw [take_snoc he, rowsV_append, List.length_take, Nat.min_eq_left (Nat.le_of_lt hi), Nat.zero_add]
  show _ ++ (e.row i ++ []) = _
  rw [List.append_nil]
theorem rowsV_len : ∀ (es : List Ev) (i : Nat), (rowsV i es).length ≤ es.length
  | [], _ => Nat.le_refl _
  | e :: es, i => by
    show (e.row i ++ rowsV (i + 1) es).length ≤ es.length + 1
    have h := rowsV_len es (i + 1)
    have h1 : (e.row i).length ≤ 1 := by cases e <;> simp [Ev.row]
    rw [List.length_append]
    omega
theorem keyOk_str {k : Str} (h : KeyOk k) : PyData.strOk k = true := by
  rcases h with h | h | h | h <;> subst h <;> decide +kernel
theorem rowsV_atom : ∀ {es : List Ev} {i : Nat}, (∀ e ∈ es, e.kok) → ∀ y ∈ rowsV i es, ∀ x ∈ y, Atom x
  | [], _, _, y, hy => by cases hy
  | e :: es, i, h, y, hy => by
    have hy : y ∈ e.row i ++ rowsV (i + 1) es := hy
    rcases List.mem_append.mp hy with z | z
    · have hk := h e (by simp)
      cases e with
      | put k v =>
        rw [show y = [.int (i : Nat), .str k, .int v] from List.mem_singleton.mp z]
        intro x hx
        simp only [List.mem_cons, List.not_mem_nil, or_false] at hx
        rcases hx with q | q | q <;> subst q
        · trivial
        · exact keyOk_str hk
        · trivial
      | drop k =>
        rw [show y = [.int (i : Nat), .str k, .non] from List.mem_singleton.mp z]
        intro x hx
        simp only [List.mem_cons, List.not_mem_nil, or_false] at hx
        rcases hx with q | q | q <;> subst q
        · trivial
        · exact keyOk_str hk
        · trivial
      | join r => cases z
      | read r u => cases z
      | save r => cases z
      | load r c => cases z
      | wait => cases z
    · exact rowsV_atom (fun e he => h e (by simp [he])) y z
/-! ### what holds of where readers are, along a row of events -/
structure Gd (st : WS) (n : Nat) : Prop where
  m0 : 0 ≤ st.many
  m1 : st.many ≤ n
  s : ∀ r p, st.seats r = some p → 0 ≤ p
  c : ∀ p ∈ st.copies, 0 ≤ p
  k : ∀ r p, st.seats r = some p → 0 ≤ r ∧ r < 4
theorem Gd.nil : Gd .nil 0 := ⟨Int.le_refl _, Int.le_refl _, (fun r p h => by cases h), (fun p h => by cases h), (fun r p h => by cases h)⟩
theorem Gd.mono {st : WS} {n m : Nat} (g : Gd st n) (l : n ≤ m) : Gd st m := ⟨g.m0, by have := g.m1; omega, g.s, g.c, g.k⟩
theorem Gd.seat {st : WS} {n : Nat} (g : Gd st n) (r p : Int) (h : 0 ≤ p) (hr : 0 ≤ r ∧ r < 4) : Gd (st.seat r p) (n + 1) := ⟨g.m0, by have := g.m1; show st.many ≤ _; omega, (fun i q e => by
  have e : (if i = r then some p else st.seats i) = some q := e
  split at e
  · cases e; exact h
  · exact g.s i q e), g.c, (fun i q e => by
  have e : (if i = r then some p else st.seats i) = some q := e
  split at e
  · rename_i z
    rw [z]
    exact hr
  · exact g.k i q e)⟩
theorem Gd.step {st : WS} {n : Nat} {e : Ev} (g : Gd st n) (h : e.ok) : Gd (st.step e) (n + 1) := by
  have m0 := g.m0
  have m1 := g.m1
  cases e with
  | put k v => exact ⟨by show 0 ≤ st.many + 1; omega, by show st.many + 1 ≤ _; omega, g.s, g.c, g.k⟩
  | drop k => exact ⟨by show 0 ≤ st.many + 1; omega, by show st.many + 1 ≤ _; omega, g.s, g.c, g.k⟩
  | join r => exact g.seat r 0 (Int.le_refl _) h
  | read r u => exact g.seat r u (Int.le_of_lt h.2) h.1
  | save r =>
    refine ⟨m0, by show st.many ≤ _; omega, g.s, fun p hp => ?_, g.k⟩
    have hp : p ∈ st.copies ++ [(st.seats r).getD 0] := hp
    rcases List.mem_append.mp hp with q | q
    · exact g.c p q
    · rw [List.mem_singleton] at q
      rw [q]
      cases z : st.seats r with
      | none => exact Int.le_refl _
      | some y => exact g.s r y z
  | load r c =>
    refine g.seat r _ ?_ h.1
    rw [List.getD_eq_getElem?_getD]
    cases z : st.copies[c.toNat]? with
    | none => exact Int.le_refl _
    | some y => exact g.c y (List.mem_of_getElem? z)
  | wait => exact g.mono (Nat.le_succ _)
theorem Gd.run {st : WS} : ∀ {n : Nat} {es : List Ev}, Gd st n → (∀ e ∈ es, e.ok) → Gd (st.run es) (n + es.length) := by
  intro n es
  induction es generalizing st n with
  | nil => intro g _; exact g
  | cons e es ih =>
    intro g h
    have q := ih (st := st.step e) (n := n + 1) (g.step (h e (by simp))) fun x hx => h x (by simp [hx])
    have e1 : n + (e :: es).length = n + 1 + es.length := by rw [List.length_cons]; omega
    rw [e1]
    exact q
theorem valid_reads : ∀ {rs : List Int} {st : WS}, rs.Nodup → (∀ r ∈ rs, ∃ p, st.seats r = some p ∧ p < st.many) → Valid st (rs.map fun r => Ev.read r st.many)
  | [], _, _, _ => True.intro
  | r :: rs, st, hn, h => by
    obtain ⟨p, hp, hlt⟩ := h r (by simp)
    obtain ⟨n1, n2⟩ := List.nodup_cons.mp hn
    refine ⟨⟨p, hp, hlt, Int.le_refl _⟩, ?_⟩
    refine valid_reads (st := st.step (.read r st.many)) n2 fun s hs => ?_
    obtain ⟨p', hp', hlt'⟩ := h s (by simp [hs])
    refine ⟨p', ?_, hlt'⟩
    show (if s = r then some st.many else st.seats s) = some p'
    rw [if_neg (show ¬ s = r from fun e => n1 (by rw [← e]; exact hs))]
    exact hp'
/-! ### lots: lists of puts and drops in a list -/
def Ev.ent : Ev → Prop
  | .put k v => KeyOk k ∧ 0 ≤ v ∧ v < 9
  | .drop k => KeyOk k
  | _ => False
theorem Ev.ent_ok {e : Ev} (h : e.ent) : e.ok := by cases e <;> first | exact h | exact h.elim
theorem Ev.ent_kok {e : Ev} (h : e.ent) : e.kok := Ev.ok_kok (Ev.ent_ok h)
theorem Ev.ent_fits {e : Ev} {st : WS} (h : e.ent) : st.fits e := by cases e <;> first | trivial | exact h.elim
def RowAt (H : Hp) (r : Addr) (es : List Ev) : Prop := ∃ xs, H r = some (.lst xs) ∧ Evs H xs es
structure LotsAt (H : Hp) (l : Addr) (rs : List Addr) (ess : List (List Ev)) : Prop where
  nd : rs.Nodup
  r : Paired (RowAt H) rs ess
  nl : l ∉ rs
  en : ∀ es ∈ ess, ∀ e ∈ es, e.ent
  l : H l = some (.lst (rs.map V.ref))
theorem RowAt.keep {H H' : Hp} {r : Addr} {es : List Ev} {M : List Addr} (h : RowAt H r es) (g : Gr M H H') (n : r ∉ M) : RowAt H' r es := by
  obtain ⟨xs, h1, h2⟩ := h
  exact ⟨xs, g.keep _ _ n h1, h2.gr g⟩
theorem rows_keep {H H' : Hp} {M : List Addr} (g : Gr M H H') : ∀ {rs : List Addr} {ess : List (List Ev)}, Paired (RowAt H) rs ess → (∀ r ∈ rs, r ∉ M) → Paired (RowAt H') rs ess
  | _, _, .nil, _ => .nil
  | _, _, .cons h t, n => .cons (h.keep g (n _ (by simp))) (rows_keep g t fun r hr => n r (by simp [hr]))
theorem LotsAt.keep {H H' : Hp} {l : Addr} {rs : List Addr} {ess : List (List Ev)} {M : List Addr} (h : LotsAt H l rs ess) (g : Gr M H H') (n1 : l ∉ M) (n2 : ∀ r ∈ rs, r ∉ M) : LotsAt H' l rs ess :=
  ⟨h.nd, rows_keep g h.r n2, h.nl, h.en, g.keep _ _ n1 h.l⟩
def total (ess : List (List Ev)) : Nat := (ess.map List.length).sum
theorem total_append (a b : List (List Ev)) : total (a ++ b) = total a + total b := by unfold total; rw [List.map_append, List.sum_append]
/-- the ints of a list of lengths -/
theorem sum_ints : ∀ ess : List (List Ev), ((ess.map fun es => ((es.length : Nat) : Int)).sum) = ((total ess : Nat) : Int)
  | [] => rfl
  | es :: r => by
    have ih := sum_ints r
    unfold total at *
    simp only [List.map_cons, List.sum_cons]
    rw [ih]
    omega
theorem mem_of_pr {α β : Type} {F : α → β → Prop} : ∀ {a : List α} {b : List β} {x : α}, Paired F a b → x ∈ a → ∃ y ∈ b, F x y
  | _, _, _, .nil, h => by cases h
  | _, _, x, .cons h t, hx => by
    rcases List.mem_cons.mp hx with z | z
    · subst z; exact ⟨_, by simp, h⟩
    · obtain ⟨y, hy, f⟩ := mem_of_pr t z
      exact ⟨y, by simp [hy], f⟩
theorem run_join {p : Int} : ∀ {s : WS} {es : List Ev}, Ev.join p ∈ es → ((s.run es).seats p).isSome = true
  | s, [], h => by cases h
  | s, e :: es, h => by
    rcases List.mem_cons.mp h with z | z
    · subst z
      refine run_some (s := s.step (.join p)) (es := es) ?_
      show (if p = p then some (0 : Int) else s.seats p).isSome = true
      rw [if_pos rfl]
      rfl
    · exact run_join (s := s.step e) z
theorem valid_triv : ∀ {s : WS} {es : List Ev}, (∀ e ∈ es, ∀ s : WS, s.fits e) → Valid s es
  | _, [], _ => True.intro
  | s, e :: es, h => ⟨h e (by simp) s, valid_triv fun x hx => h x (by simp [hx])⟩
/-- events as data -/
def evD (e : Ev) : PyData := tpD e.vs
theorem ev_atom {e : Ev} (h : e.kok) : ∀ x ∈ e.vs, Atom x := by
  intro x hx
  cases e <;> simp only [Ev.vs, List.mem_cons, List.not_mem_nil, or_false] at hx
  · rcases hx with q | q | q <;> subst q
    · show PyData.strOk "put" = true; decide +kernel
    · exact keyOk_str h
    · trivial
  · rcases hx with q | q <;> subst q
    · show PyData.strOk "drop" = true; decide +kernel
    · exact keyOk_str h
  · rcases hx with q | q <;> subst q
    · show PyData.strOk "join" = true; decide +kernel
    · trivial
  · rcases hx with q | q | q <;> subst q
    · show PyData.strOk "read" = true; decide +kernel
    · trivial
    · trivial
  · rcases hx with q | q <;> subst q
    · show PyData.strOk "save" = true; decide +kernel
    · trivial
  · rcases hx with q | q | q <;> subst q
    · show PyData.strOk "load" = true; decide +kernel
    · trivial
    · trivial
  · subst hx
    show PyData.strOk "wait" = true
    decide +kernel
theorem evs_dp {K : PySem.W.Frag} {H : Hp} : ∀ {xs : List V} {es : List Ev}, Evs H xs es → (∀ e ∈ es, e.kok) → DpAll K H xs (es.map evD)
  | _, _, .nil, _ => .nil
  | _, _, .cons ⟨a, e, h⟩ t, f => by
    subst e
    exact .cons (.tup (SqT.of h) (atoms_dp (ev_atom (f _ (by simp))))) (evs_dp t fun y hy => f y (by simp [hy]))
theorem evs_sh {n : Nat} : ∀ {es : List Ev}, (∀ e ∈ es, e.kok) → ShA (es.map evD) (n + 1)
  | [], _ => .nil
  | e :: es, f => .cons (atoms_sh (n := n) (ev_atom (f e (by simp)))).tuple (evs_sh fun z hz => f z (by simp [hz]))
theorem lots_dp {K : PySem.W.Frag} {H : Hp} : ∀ {rs : List Addr} {ess : List (List Ev)}, Paired (RowAt H) rs ess → (∀ es ∈ ess, ∀ e ∈ es, e.ent) → DpAll K H (rs.map V.ref) (ess.map fun es => PyData.list (es.map evD))
  | _, _, .nil, _ => .nil
  | _, _, .cons ⟨xs, h, he⟩ t, f => .cons (.lst (SqL.of h) (evs_dp he fun e q => Ev.ent_kok (f _ (by simp) e q))) (lots_dp t fun es q => f es (by simp [q]))
theorem lots_sh : ∀ {ess : List (List Ev)}, (∀ es ∈ ess, ∀ e ∈ es, e.ent) → ShA (ess.map fun es => PyData.list (es.map evD)) 2
  | [], _ => .nil
  | es :: ess, f => .cons (evs_sh (n := 0) fun e q => Ev.ent_kok (f es (by simp) e q)).list (lots_sh fun z q => f z (by simp [q]))
/-! ### other numbers of readers -/
def farR (r : Int) : Int := ([9, 10, 100, 1] : List Int).getD r.toNat 0
def Ev.far : Ev → Ev
  | .join r => .join (farR r)
  | .read r u => .read (farR r) u
  | .save r => .save (farR r)
  | .load r c => .load (farR r) c
  | e => e
theorem Ev.far_kok {e : Ev} (h : e.kok) : e.far.kok := by cases e <;> exact h
end PK

set_option Elab.async false
set_option linter.all false
set_option maxRecDepth 100000
/-! What is walked, list or tuple alike: a plain for, enumerate. -/
namespace PK
open PySem PySem.Spec PyProof.Rows L2

/-! ### one rule or another -/
theorem pi_alt {X : Cx} {tg e : Expr} {w1 w2 : TI} (h1 : PI X tg e w1) (h2 : PI X tg e w2) : PI X tg e (fun σ H R => w1 σ H R ∨ w2 σ H R) :=
  ⟨fun pins s σ H R I h => h.elim (h1.run pins s σ H R I) (h2.run pins s σ H R I)⟩
theorem pe_alt {X : Cx} {e : Expr} {t1 t2 : TE} (h1 : PE X e t1) (h2 : PE X e t2) : PE X e (fun σ H Q => t1 σ H Q ∨ t2 σ H Q) :=
  ⟨fun pins s σ H Q I h => h.elim (h1.run pins s σ H Q I) (h2.run pins s σ H Q I)⟩
def iSeq (K : PySem.W.Frag) (tl : TE) : TI := fun σ H R => iList K tl σ H R ∨ iTup K tl σ H R
theorem pi_seq {X : Cx} {tg l : Expr} {tl : TE} (hl : PE X l tl) : PI X tg l (iSeq X.K tl) := pi_alt (pi_list hl) (pi_tup hl)

/-! ### enumerate over a tuple -/
def IteT (K : PySem.W.Frag) (a : Addr) : It where
  go := fun i H => ∃ (xs : List V) (x : V), SqT K H a xs ∧ xs[i]? = some x
  yld := fun i H v H' => ∃ T x, v = .ref T ∧ H T = none ∧ H' = upd H T (.tup [.int (i : Nat), x]) ∧ ∀ xs, SqT K H a xs → xs[i]? = some x
  stop := fun i H => ∃ xs : List V, SqT K H a xs ∧ xs.length = i
def EnT (a e it : Addr) (i : Nat) (h : Heap) : Prop := (∃ old, IsEnum h e it ((i : Nat) : Int) old) ∧ h.IsTupleIter it a i ∧ e ≠ it ∧ e ≠ a ∧ a ≠ it
theorem turn_enT {P : Program} {w : World} {K : PySem.W.Frag} {elts : List Expr} {kk : Nat} {tpos : Pos} (a e it : Addr) : Turn P w K (.Tuple elts kk tpos) (IteT K a) [e, it] e (EnT a e it) where
  mem := List.mem_cons_self
  obj := by
    rintro i h ⟨⟨old, he⟩, ⟨o, ho, hc, hd⟩, _⟩ b hb
    rcases List.mem_cons.mp hb with z | z
    · subst z
      exact ⟨_, he, fun v q => by cases q⟩
    · rw [List.mem_singleton] at z
      subst z
      exact ⟨o, ho, fun v q => by rw [hd] at q; cases q⟩
  keep := by
    rintro i h h' ⟨⟨old, he⟩, hi, r⟩ k
    exact ⟨⟨old, k e List.mem_cons_self _ he⟩, hi.at fun o q => k it (by simp) o q, r⟩
  item := by
    rintro X rfl rfl rfl hc i pins s σ H E I hf ⟨⟨old, he⟩, hit, n1, n2, n3⟩ ⟨xs, x, hq, hx⟩
    obtain ⟨its, rv, p, hz⟩ := I.tuple hq
    obtain ⟨u, hu, ru⟩ := rv.get hx
    have le1 : e < s.heap.objs.size := Heap.lt_size he
    have le2 : it < s.heap.objs.size := hit.elim fun o q => Heap.lt_size q.1
    have hti : its.toArray[i]? = some u := by simpa using hu
    have hlt : i < its.toArray.size := (Array.getElem?_eq_some_iff.mp hti).1
    refine wpAny_pyNext_enum_itemD (Draws.tuple (prog := X.prog) (w := X.w) (A := X.A.in1) (I.ok.hd hc) it a n3 its.toArray) he ⟨hit, p⟩ hlt n1 (by simp [n1, n2]) fun y h1 tk hP ho hs hT hsz hk => ?_
    have ey : y = u := by
      have hP : its.toArray[i]? = some y := hP
      rw [hti] at hP
      exact (Option.some.inj hP).symm
    subst ey
    refine ⟨_, rfl, wpAny_letOwnedTupleGo_enum (s := { s with heap := h1, toks := tk + 1 }) ho fun h2 he2 sb => ?_⟩
    have hT2 : h2.get? s.heap.objs.size = some { cls := .type "tuple", data := .seq #[.int i tk, y] } := (sb.2 _ (Nat.ne_of_gt le1)).trans hT
    have made : ObjOk X.prog X.w (upd H s.heap.objs.size (.tup [.int (i : Nat), x])) h2 s.heap.objs.size (.tup [.int (i : Nat), x]) :=
      ⟨Nat.le_trans (by decide : 2 ≤ 1000) (by decide), [.int i tk, y], .cons ⟨tk, rfl⟩ (.cons ru .nil), ⟨_, hT2, rfl, _, rfl⟩⟩
    have kept : ∀ b o, b ∉ [e, it] → s.heap.get? b = some o → h2.get? b = some o := fun b o nb q => by
      have b1 : b ≠ e := fun z => nb (by simp [z])
      have b2 : b ≠ it := fun z => nb (by simp [z])
      exact (sb.2 b b1).trans (hk b o b1 b2 q)
    refine ⟨.ref s.heap.objs.size, _, I.turnedNew (t' := tk + 1) (ch := [e, it]) kept hf (Nat.le_refl _) made, rfl, ⟨_, x, rfl, I.hok.fresh (Nat.le_refl _), rfl, fun ys hy => ?_⟩, ⟨⟨y, ?_⟩, hs.1.at fun o q => (sb.2 it n1.symm).trans q, n1, n2, n3⟩, fun b hb => ?_⟩
    · rw [I.tuple_inj hy hq]
      exact hx
    · have e1 : ((i + 1 : Nat) : Int) = (i : Int) + 1 := by omega
      rw [e1]
      exact he2
    · have lb : b < s.heap.objs.size := by
        rcases List.mem_cons.mp hb with z | z
        · rw [z]; exact le1
        · rw [List.mem_singleton] at z; rw [z]; exact le2
      rw [upd_ne (Nat.ne_of_lt lb)]
      exact (hf b hb).1
  done := by
    rintro X rfl rfl rfl hc i pins s σ H E I hf ⟨⟨old, he⟩, hit, n1, n2, n3⟩ ⟨xs, hq, hx⟩
    obtain ⟨its, rv, p, hz⟩ := I.tuple hq
    obtain ⟨f0, f1, f2, f3, f4, f5⟩ := hf it (by simp)
    have hl := rv.length
    have ei : i = its.toArray.size := by rw [List.size_toArray, ← hl, hx]
    subst ei
    exact wpAny_pyNext_enum_endD (Draws.tuple (prog := X.prog) (w := X.w) (A := X.A.in1) (I.ok.hd hc) it a n3 its.toArray) he ⟨hit, p⟩ fun h1 eb => ⟨rfl, I.turned (t' := s.toks) (fun b o hb q => eb b o hb q) f0 f1 f3 f4 f5⟩
  self := fun A i s Q E st h => st.1.elim fun old he => wpAny_pyIter_enum he h
theorem walk_enT {K : PySem.W.Frag} {a : Addr} {xs : List V} : Walk (IteT K a) xs.length (fun H => SqT K H a xs) (YPair (fun i => some (.int (i : Nat))) (fun i => xs[i]?)) where
  goes := fun i H hi h => ⟨xs, xs[i], h, List.getElem?_eq_getElem hi⟩
  stops := fun H h => ⟨xs, h, rfl⟩
  yields := by
    rintro i H v H' hi h ⟨T, x, e1, e2, e3, e4⟩
    exact ⟨T, _, x, e1, e2, e3, rfl, e4 xs h⟩
set_option maxHeartbeats 1000000 in
/-- enumerate(v): what it makes -/
theorem meets_enum_new {v : Value} {o : Obj} {F : Heap → Prop} (B : Begins v o F) : Meets (Builtin.«enumerate.__new__» ⟨[.type "enumerate", v], []⟩)
    (fun _ R s => F s.heap ∧ R (.ok (.ret (.ref (s.heap.push o).objs.size))) { s with heap := (s.heap.push o).push { cls := .type "enumerate", data := .fields #[.none, .bool false, .ref s.heap.objs.size, rawInt 0, .none, .none] } }) := by
  refine .of_wp fun prog w A R s h => ?_
  obtain ⟨hp, g, d, tk, os⟩ := s
  obtain ⟨h1, h⟩ := h
  have hsub := sub_enumerate
  have q1 : ∀ {A' : Around} {E : Value → Shared → Prop} {Q : Value → Shared → Prop}, Q (.ref hp.objs.size) ⟨hp.push o, g, d, tk, os⟩ → wpAny (model prog w) A' (pyIter v) Q E ⟨hp, g, d, tk, os⟩ := fun q => B.iter prog w _ _ ⟨hp, g, d, tk, os⟩ _ h1 q
  wp_walk
  refine wpAny_stack_any fun st => wpAny_pure ?_
  split
  · rename_i c _ _ _ _ _
    cases (c == Value.type "enumerate") <;> (wp_walk using q1; exact ⟨_, rfl, h⟩)
  · wp_walk using q1
    exact ⟨_, rfl, h⟩
theorem enum_tup {prog : Program} {w : World} {A : Around} {E : Value → Shared → Prop} {s : Shared} {a : Addr} {items : Array Value} {Q : Value → Shared → Prop} (ht : s.heap.IsTuple a items)
    (k : ∀ h', IsEnum h' (s.heap.objs.size + 1) s.heap.objs.size 0 .none → h'.IsTupleIter s.heap.objs.size a 0 → (∀ b o, s.heap.get? b = some o → h'.get? b = some o) → Q (.ref (s.heap.objs.size + 1)) { s with heap := h' }) :
    wpAny (model prog w) A (call (.type "enumerate") [.ref a]) Q E s := by
  refine callType_new F.called_enumerate (by decide) (F.typeCall_enumerate_1 _) (F.newCall_enumerate_1 _) (fun obj => F.args_object_init_2 obj _) F.entry_enumerate_new (meets_enum_new (begins_tuple a items)) ⟨ht, ?_⟩
  generalize ho : ({ cls := .type "tuple_iterator", data := .fields #[.ref a, .int 0 0] } : Obj) = o
  have nf : o.isFreed = false := by rw [← ho]; rfl
  have hz : (s.heap.push o).objs.size = s.heap.objs.size + 1 := Heap.size_push ..
  show _ ∧ _
  have he := Heap.get?_push_size (s.heap.push o) (o := { cls := .type "enumerate", data := .fields #[.none, .bool false, .ref s.heap.objs.size, rawInt 0, .none, .none] }) rfl
  have hi := Heap.get?_push_of_some ({ cls := .type "enumerate", data := .fields #[.none, .bool false, .ref s.heap.objs.size, rawInt 0, .none, .none] } : Obj) (Heap.get?_push_size s.heap nf)
  rw [hz] at he ⊢
  exact ⟨⟨_, he, rfl⟩, k _ he ⟨o, hi, by rw [← ho], by rw [← ho]; rfl⟩ fun b u q => Heap.get?_push_of_some _ (Heap.get?_push_of_some _ q)⟩
def iEnT (K : PySem.W.Frag) (ta : TA) : TI := fun σ H R => ta σ H fun vs H1 => ∃ a xs, vs = [.ref a] ∧ SqT K H1 a xs ∧ R (IteT K a) H1
theorem pi_enT {X : Cx} {e : Expr} {ta : TA} {p pos tpos : Pos} {elts : List Expr} {kk : Nat} (hg : Gl X "enumerate") (hm : X.mg "enumerate" = none) (ha : PA X [e] ta) (hs : starEach [e] X.env = [(false, eval e X.env)] := by rfl) : PI X (.Tuple elts kk tpos) (.Call (.Name "enumerate" p) [e] [] pos) (iEnT X.K ta) where
  run := fun pins s σ H R I h => by
    refine Call_ (ld_blt I hg hm boot_enumerate (callWith_type1 (thn (ha.run pos pins s σ H _ I h) fun us s1 hq => ?_) hs rfl))
    obtain ⟨vs, H1, I1, r1, a, xs, rfl, hq, q⟩ := hq
    cases r1 with
    | cons r rr =>
      cases rr
      cases r
      obtain ⟨its, rv, pt, hz⟩ := I1.tuple hq
      obtain ⟨o, ho, _⟩ := id pt
      have la : a < s1.heap.objs.size := Heap.lt_size ho
      refine enum_tup (show s1.heap.IsTuple a its.toArray from pt) fun h1 he hit hk => wpAny_pyIter_enum he ?_
      have I2 : Inv X pins σ H1 { s1 with heap := h1 } := I1.kept (t' := s1.toks) hk
      refine ⟨s1.heap.objs.size + 1, [s1.heap.objs.size + 1, s1.heap.objs.size], _, _, H1, rfl, I2, turn_enT a (s1.heap.objs.size + 1) s1.heap.objs.size, ⟨⟨.none, he⟩, hit, Nat.succ_ne_self _, Nat.ne_of_gt (Nat.lt_succ_of_lt la), Nat.ne_of_lt la⟩, fun b hb => ?_, q⟩
      have lb : s1.heap.objs.size ≤ b := by
        rcases List.mem_cons.mp hb with z | z
        · rw [z]; exact Nat.le_succ _
        · rw [List.mem_singleton] at z; rw [z]; exact Nat.le_refl _
      exact I1.fpOk lb (I1.hok.fresh lb)
def iEnS (K : PySem.W.Frag) (ta : TA) : TI := fun σ H R => iEnum K ta σ H R ∨ iEnT K ta σ H R
theorem pi_enS {X : Cx} {e : Expr} {ta : TA} {p pos tpos : Pos} {elts : List Expr} {kk : Nat} (hg : Gl X "enumerate") (hm : X.mg "enumerate" = none) (ha : PA X [e] ta) (hs : starEach [e] X.env = [(false, eval e X.env)] := by rfl) : PI X (.Tuple elts kk tpos) (.Call (.Name "enumerate" p) [e] [] pos) (iEnS X.K ta) := pi_alt (pi_enum hg hm ha hs) (pi_enT hg hm ha hs)
theorem w_enT {K : PySem.W.Frag} {ta : TA} {σ : L2.St} {H : Hp} {R : It → Hp → Prop} (k : ta σ H fun vs H1 => ∃ a xs, vs = [.ref a] ∧ SqT K H1 a xs ∧ R (IteT K a) H1) : iEnT K ta σ H R := k
end PK

set_option Elab.async false
set_option linter.all false
set_option maxRecDepth 100000
/-! Data in a heap that grows; what isinstance says of it; data compared with itself. -/
namespace PK
open PySem L2
section
variable {K : PySem.W.Frag} {H H' : Hp}
theorem sqL_gr {M : List Addr} (g : Gr M H H') {a : Addr} {xs : List V} (n : a ∉ M) (h : SqL K H a xs) : SqL K H' a xs := by
  rcases h with (h | ⟨o, h⟩) | h
  · exact .inl (.inl (g.keep _ _ n h))
  · exact .inl (.inr ⟨o, g.keep _ _ n h⟩)
  · exact .inr h
theorem sqT_gr (g : Gr [] H H') {a : Addr} {xs : List V} (h : SqT K H a xs) : SqT K H' a xs := by
  rcases h with (h | ⟨o, h⟩) | h
  · exact .inl (.inl (g.k0 h))
  · exact .inl (.inr ⟨o, g.k0 h⟩)
  · exact .inr h
mutual
theorem dp_gr (g : Gr [] H H') : ∀ (d : PyData) {v : V}, Dp K H v d → Dp K H' v d
  | .none, _, h => by cases h; exact .non
  | .bool b, _, h => by cases h; exact .bl b
  | .int i, _, h => by cases h; exact .int i
  | .str x, _, h => by cases h; exact .str x
  | .list ds, _, h => by
    cases h with
    | lst h t => exact .lst (sqL_gr g (by simp) h) (dpAll_gr g ds t)
  | .tuple ds, _, h => by
    cases h with
    | tup h t => exact .tup (sqT_gr g h) (dpAll_gr g ds t)
  | .dict _, _, h => by cases h
theorem dpAll_gr (g : Gr [] H H') : ∀ (ds : List PyData) {vs : List V}, DpAll K H vs ds → DpAll K H' vs ds
  | [], _, h => by cases h; exact .nil
  | d :: ds, _, h => by
    cases h with
    | cons h t => exact .cons (dp_gr g d h) (dpAll_gr g ds t)
end
theorem dpAll_get : ∀ {vs : List V} {ds : List PyData} {i : Nat} {v : V}, DpAll K H vs ds → vs[i]? = some v → ∃ d, ds[i]? = some d ∧ Dp K H v d
  | _, _, _, _, .nil, e => by simp at e
  | _, _, 0, _, .cons h t, e => by simp at e; subst e; exact ⟨_, rfl, h⟩
  | _, _, i + 1, v, .cons h t, e => by
    obtain ⟨d, e1, e2⟩ := dpAll_get (i := i) (v := v) t (by simpa using e)
    exact ⟨d, by simpa using e1, e2⟩
theorem dpAll_len : ∀ {vs : List V} {ds : List PyData}, DpAll K H vs ds → vs.length = ds.length
  | _, _, .nil => rfl
  | _, _, .cons _ t => congrArg (· + 1) (dpAll_len t)
theorem dpAll_append : ∀ {a : List V} {b : List PyData} {c : List V} {d : List PyData}, DpAll K H a b → DpAll K H c d → DpAll K H (a ++ c) (b ++ d)
  | _, _, _, _, .nil, h => h
  | _, _, _, _, .cons h t, h' => .cons h (dpAll_append t h')
/-- what can be compared: not too deep, not too long -/
def Fine : Nat → PyData → Prop
  | _, .none => True
  | _, .bool _ => True
  | _, .int _ => True
  | _, .str x => PyData.strOk x = true
  | n + 1, .list ds => ds.length ≤ 1000 ∧ ∀ d ∈ ds, Fine n d
  | n + 1, .tuple ds => ds.length ≤ 1000 ∧ ∀ d ∈ ds, Fine n d
  | _, _ => False
theorem Fine.sh : ∀ {n : Nat} {d : PyData}, Fine n d → Sh d n
  | _, .none, _ => .none
  | _, .bool b, _ => ⟨by simp [PyData.canLay0], by simp [PyData.depth]⟩
  | _, .int i, _ => .int
  | _, .str x, h => .str (by
    cases ‹Nat› <;> exact h)
  | n + 1, .list ds, h => (ShA.of fun d hd => (h.2 d hd).sh).list
  | n + 1, .tuple ds, h => (ShA.of fun d hd => (h.2 d hd).sh).tuple
  | 0, .list _, h => h.elim
  | 0, .tuple _, h => h.elim
  | 0, .dict _, h => h.elim
  | n + 1, .dict _, h => h.elim
theorem Fine.up : ∀ {n : Nat} {d : PyData}, Fine n d → Fine (n + 1) d
  | 0, .none, _ => trivial
  | 0, .bool b, _ => trivial
  | 0, .int i, _ => trivial
  | 0, .str x, h => h
  | 0, .list _, h => h.elim
  | 0, .tuple _, h => h.elim
  | 0, .dict _, h => h.elim
  | n + 1, .none, _ => trivial
  | n + 1, .bool b, _ => trivial
  | n + 1, .int i, _ => trivial
  | n + 1, .str x, h => h
  | n + 1, .list ds, h => ⟨h.1, fun d hd => (h.2 d hd).up⟩
  | n + 1, .tuple ds, h => ⟨h.1, fun d hd => (h.2 d hd).up⟩
  | n + 1, .dict _, h => h.elim
theorem w_eqSelf {Q : VK} {x y : V} {d : PyData} {n : Nat} (h : Dp K H x d) (h' : Dp K H y d) (f : Fine n d) (l : n ≤ 64) (k : Q (.bl true) H) : rEqD K x y H Q :=
  ⟨d, d, h, h', f.sh.shaped l, f.sh.shaped l, by rw [SeqAt.eqv_refl d f.sh.1]; exact k⟩
theorem w_neSelf {Q : VK} {x y : V} {d : PyData} {n : Nat} (h : Dp K H x d) (h' : Dp K H y d) (f : Fine n d) (l : n ≤ 64) (k : Q (.bl false) H) : rNeD K x y H Q :=
  ⟨d, d, h, h', f.sh.shaped l, f.sh.shaped l, by rw [SeqAt.eqv_refl d f.sh.1]; exact k⟩
/-! ### isinstance of data -/
def tyN : PyData → String
  | .none => "NoneType"
  | .bool _ => "bool"
  | .int _ => "int"
  | .str _ => "str"
  | .list _ => "list"
  | .tuple _ => "tuple"
  | .dict _ => "dict"
theorem dp_ty : ∀ {d : PyData} {v : V}, Dp K H v d → TyX K H v (.type (tyN d))
  | _, _, .non => .base .non
  | _, _, .bl b => .base (.bl b)
  | _, _, .int i => .base (.int i)
  | _, _, .str x => .base (.str x)
  | _, _, .lst h _ => by
    rcases h with (h | ⟨o, h⟩) | ⟨o, its, n, h1, h2, _⟩
    · exact .base (.lst h)
    · exact .base (.frz h)
    · exact .kList h1 h2
  | _, _, .tup h _ => by
    rcases h with (h | ⟨o, h⟩) | ⟨o, its, n, h1, h2, _⟩
    · exact .base (.tup h)
    · exact .fTuple h
    · exact .kTuple h1 h2
/-- isinstance(x, c) -/
theorem w_isi {Q : VK} {x : V} {d : PyData} {c : String} {b : Bool} (h : Dp K H x d) (e : kitB (tyN d) c = some b) (k : Q (.bl b) H) : rIsi K [x, .ty c] H Q := ⟨x, .ty c, _, _, b, rfl, .ty c, dp_ty h, kit_ty e, k⟩
/-- isinstance(x, (c1, c2)), the tuple just made -/
theorem w_isi2 {Q : VK} {x : V} {d : PyData} {t : Addr} {c1 c2 : String} {b1 b2 : Bool} (h : Dp K H x d) (ht : H t = some (.tup [.ty c1, .ty c2])) (e1 : kitB (tyN d) c1 = some b1) (e2 : kitB (tyN d) c2 = some b2) (k : Q (.bl (b1 || b2)) H) : rIsiT K [x, .ref t] H Q :=
  ⟨x, t, _, _, [.type c1, .type c2], b1 || b2, rfl, ht, .cons (.ty c1) (.cons (.ty c2) .nil), dp_ty h, kitAny_cons (kit_ty e1) (fun z => kitAny_cons (kit_ty e2) (fun z2 => by rw [z, z2]; exact kitAny_nil) (fun z2 => by rw [z, z2]; rfl)) (fun z => by rw [z]; rfl), k⟩
/-! ### zip of two tuples -/
theorem walk_zT {a b : Addr} {xs ys : List V} (hl : xs.length = ys.length) : Walk (RZ.ItzT K a b) xs.length (fun H => SqT K H a xs ∧ SqT K H b ys) (YPair (fun i => xs[i]?) (fun i => ys[i]?)) where
  goes := fun i H hi q => ⟨xs, ys, xs[i], ys[i]'(by omega), q.1, q.2, by simp, by simp⟩
  stops := fun H q => ⟨xs, ys, q.1, q.2, .inl (Nat.le_refl _)⟩
  yields := fun i H v H' _ q y => by
    obtain ⟨T, x, z, h1, h2, h3, h4, h5⟩ := y
    exact ⟨T, x, z, h1, h2, h3, h4 xs q.1, h5 ys q.2⟩
theorem w_zipA {σ : L2.St} {ta : TA} {R : It → Hp → Prop} (k : ta σ H fun vs H1 => ∃ a b xs ys, vs = [.ref a, .ref b] ∧ ((SqL K H1 a xs ∧ SqL K H1 b ys ∧ R (Itz K a b) H1) ∨ (SqT K H1 a xs ∧ SqT K H1 b ys ∧ R (RZ.ItzT K a b) H1))) : RZ.iZipA K ta σ H R := k
end
/-- the def at its name, promising nothing -/
theorem Has.bot {P : Program} {w : World} {K : PySem.W.Frag} {mg : Str → Option Value} {base : Heap} {x : Str} {st : Stmt} {ps : List Str} (D : Df K mg x st ps) (k : Nat) : Has P w K mg base k x ps (fun _ _ _ _ => False) :=
  Has.mk' D fun f fd F => ⟨fun _ _ _ _ h => h.elim, fun _ _ _ _ _ _ _ _ _ _ _ _ _ h => h.elim⟩
end PK

set_option Elab.async false
set_option linter.all false
set_option maxRecDepth 100000
/-! Rules that are told what a name stands for. -/
namespace PK
open PySem L2
section
variable {X : Cx} {K : PySem.W.Frag} {pos : Pos}
theorem pg_tupK {es : List Expr} {k : Nat} {t : TGs} {n : Nat} (hc : X.calm = true) (h : PGs X es t) (hK : X.K = K := by rfl)
    (hn : (assignEach es X.env).length = n := by rfl) (hst : (assignEach es X.env).findIdx? (·.1) = none := by rfl) : PG X (.Tuple es k pos) (gTup K n t) := by
  subst hK; exact pg_tup hc h hn hst
end
/-! ### rows in lists or in tuples -/
section
variable {K : PySem.W.Frag} {H H' : Hp}
def Sq (K : PySem.W.Frag) (H : Hp) (a : Addr) (xs : List V) : Prop := SqL K H a xs ∨ SqT K H a xs
theorem Sq.gr {a : Addr} {xs : List V} (h : Sq K H a xs) (g : Gr [] H H') : Sq K H' a xs := h.imp (sqL_gr g (by simp)) (sqT_gr g)
/-- an event, its parts in a list or in a tuple -/
def RowQ (K : PySem.W.Frag) (H : Hp) (v : V) (e : Ev) : Prop := ∃ a, v = .ref a ∧ Sq K H a e.vs
theorem RowQ.gr {v : V} {e : Ev} (h : RowQ K H v e) (g : Gr [] H H') : RowQ K H' v e := by
  obtain ⟨a, r, q⟩ := h
  exact ⟨a, r, q.gr g⟩
def TabQ (K : PySem.W.Frag) (H : Hp) (v : V) (es : List Ev) : Prop := ∃ a xs, v = .ref a ∧ Sq K H a xs ∧ Paired (RowQ K H) xs es
theorem TabQ.gr {v : V} {es : List Ev} (h : TabQ K H v es) (g : Gr [] H H') : TabQ K H' v es := by
  obtain ⟨a, xs, r, q, p⟩ := h
  exact ⟨a, xs, r, q.gr g, Paired.mono (fun _ _ z => z.gr g) p⟩
theorem TabQ.of_tt {v : V} {es : List Ev} (h : IsTT H v es) : TabQ K H v es := by
  obtain ⟨a, xs, r, q, p⟩ := h
  refine ⟨a, xs, r, .inr (SqT.of q), Paired.mono (fun _ _ z => ?_) p⟩
  obtain ⟨c, e, hc⟩ := z
  exact ⟨c, e, .inr (SqT.of hc)⟩
theorem w_ixQ {Q : VK} {v : V} {p : Addr} {xs : List V} {i : Int} (h : Sq K H p xs) (hx : atI xs i = some v) (k : Q v H) : rIx K (.ref p) (.int i) H Q :=
  h.elim (fun z => .inl ⟨p, xs, i, v, rfl, rfl, z, hx, k⟩) (fun z => .inr (.inl ⟨p, xs, i, v, rfl, rfl, z, hx, k⟩))
theorem w_enSv {B : Hp} {σ : L2.St} {R : It → Hp → Prop} {i : Nat} {a : Addr} {xs : List V} (h : σ[i]? = some (some (.ref a))) (hq : Sq K B a xs) (g : Gr [] B H)
    (k : ∀ (J : It) (G : Hp → Prop), (∀ H', Gr [] B H' → G H') → Walk J xs.length G (YPair (fun i => some (.int (i : Nat))) (fun i => xs[i]?)) → R J H) : iEnS K (tCons (tVar i) tNil) σ H R := by
  rcases hq with z | z
  · exact .inl (WK.w_cons (WK.w_var h (WK.w_nil ⟨a, xs, rfl, sqL_gr g (by simp) z, k _ _ (fun _ g => sqL_gr g (by simp) z) walk_enum⟩)))
  · exact .inr (WK.w_cons (WK.w_var h (WK.w_nil ⟨a, xs, rfl, sqT_gr g z, k _ _ (fun _ g => sqT_gr g z) walk_enT⟩)))
theorem w_seqv {B : Hp} {σ : L2.St} {R : It → Hp → Prop} {i : Nat} {a : Addr} {xs : List V} (h : σ[i]? = some (some (.ref a))) (hq : Sq K B a xs) (g : Gr [] B H)
    (k : ∀ (J : It) (G : Hp → Prop), (∀ H', Gr [] B H' → G H') → Walk J xs.length G (YAt xs) → R J H) : iSeq K (tVar i) σ H R := by
  rcases hq with z | z
  · exact .inl (w_itL (WK.w_var h ⟨a, rfl, ⟨_, sqL_gr g (by simp) z⟩, k _ _ (fun _ g => sqL_gr g (by simp) z) walk_list⟩))
  · exact .inr (w_itT (WK.w_var h ⟨a, rfl, ⟨_, sqT_gr g z⟩, k _ _ (fun _ g => sqT_gr g z) walk_tup⟩))
end
end PK

set_option Elab.async false
set_option linter.all false
set_option maxRecDepth 100000
/-! A def of one parameter that is called by its parameter's name, too. -/
namespace PK
open PySem L2
/-- the one value that is told by a name -/
def kv1 {α : Type} : List α → List α → List α
  | [], [u] => [u]
  | _, _ => []
/-- a def of one parameter: by place and by name -/
structure Df1 (K : PySem.W.Frag) (mg : Str → Option Value) (x : Str) (st : Stmt) (ps : List Str) : Prop where
  ex : ∃ f fd, Fun K x x st f fd ∧ mg x = some (.ref f) ∧ Binds K fd ps [] ∧ KBinds K fd ps ps kv1 kv1
structure Has1 (P : Program) (w : World) (K : PySem.W.Frag) (mg : Str → Option Value) (base : Heap) (k : Nat) (x : Str) (ps : List Str) (sp : Sp) : Prop where
  ex : ∃ f fd, FnOk P w K mg base CX0 k f fd ps sp ∧ mg x = some (.ref f) ∧ PySem.W.keepIn K (.ref f) = true ∧ Binds K fd ps [] ∧ KBinds K fd ps ps kv1 kv1
section
variable {P : Program} {w : World} {K : PySem.W.Frag} {mg : Str → Option Value} {base : Heap} {k : Nat} {x : Str} {st : Stmt} {ps : List Str} {sp : Sp}
theorem Df1.df (D : Df1 K mg x st ps) : Df K mg x st ps := by
  obtain ⟨f, fd, F, m, b, _⟩ := D.ex
  exact ⟨f, fd, F, m, b⟩
theorem Has1.mk' (D : Df1 K mg x st ps) (h : ∀ f fd, Fun K x x st f fd → FnOk P w K mg base CX0 k f fd ps sp) : Has1 P w K mg base k x ps sp := by
  obtain ⟨f, fd, F, m, b, kb⟩ := D.ex
  exact ⟨f, fd, h f fd F, m, F.kp, b, kb⟩
theorem Has1.has (h : Has1 P w K mg base k x ps sp) : Has P w K mg base k x ps sp := by
  obtain ⟨f, fd, F, m, kp, b, _⟩ := h.ex
  exact ⟨f, fd, F, m, kp, b⟩
theorem kv1_rel {vs : List V} {us : List Value} {zs : List V} {ws : List Value} (h : Vals vs us) (h' : Vals zs ws) : Vals (kv1 vs zs) (kv1 us ws) := by
  cases h with
  | nil =>
    cases h' with
    | nil => exact .nil
    | cons r t =>
      cases t with
      | nil => exact .cons r .nil
      | cons _ _ => exact .nil
  | cons r t => exact .nil
end
def tKw (sp : Sp) (t : TA) : TE := fun σ H Q => t σ H fun zs H2 => sp (kv1 [] zs) H2 Q E0
section
variable {X : Cx} {k : Nat} {x : Str} {ps : List Str} {sp : Sp} {kws : List Keyword} {pos p : Pos} {t : TA}
/-- x(name=e) -/
theorem pe_kwH (D : Has1 X.prog X.w X.K X.mg X.base k x ps sp) (room : Room k X.A) (hg : Gl X x) (kw : L2.PK X kws t) (named : (backToKw pos (keywordEach kws X.env)).all (·.1.isSome) = true := by rfl)
    (names : (backToKw pos (keywordEach kws X.env)).filterMap (·.1) = ps := by rfl) (hdb : (x == ("__debug__" : Str)) = false := by decide)
    (plain : ((backTo pos (starEach [] X.env)).any (·.1) || (backToKw pos (keywordEach kws X.env)).any (·.1.isNone)) = false := by rfl) : PE X (.Call (.Name x p) [] kws pos) (tKw sp t) := by
  obtain ⟨f, fd, F, m, kp, _, kb⟩ := D.ex
  refine ⟨fun pins s σ H Q I want => wpAny_Call_Name_kw (ld_glob I hg m ?_ hdb)⟩
  refine PySem.W.callWith_KW0 (h₀ := X.base) I.ok.mod.kin kp named ?_ plain
  rw [names]
  exact thn (kw.run pos pins s σ H _ I want) fun ws s1 ⟨zs, H1, I1, rel, go⟩ => ⟨I1.kIn, run_fnk (us := []) (vs := []) F room kb pass0 I1 .nil rel go⟩
end
theorem WK.w_kw {sp : Sp} {t : TA} {σ : L2.St} {H : Hp} {Q : VK} (k : t σ H fun zs H2 => sp (kv1 [] zs) H2 Q E0) : tKw sp t σ H Q := k
end PK

set_option Elab.async false
set_option linter.all false
set_option maxRecDepth 100000
/-! Sets of whole numbers made out of a list. -/
namespace PK
open PySem PySem.Spec PyProof.Rows L2
section
variable {P : Program} {w : World} {A : Around} {E : Value → Shared → Prop} {s : Shared}
/-- a set without members, just made -/
abbrev bare (w : World) : Obj := { cls := .type "set", dict := none, data := .set #[] 0 (.fresh 0 0 (!w.params.followText "set-order")) }
/-- a built-in type is called, its __init__ asked after its arguments by itself -/
theorem type_makes {T newId initId : String} {B : Builtin} {args : List Value} {Q Q₁ : Value → Shared → Prop} (ft : TypeCalled T newId initId) (fine : checkTypeCall T ⟨args, []⟩ = pure ()) (ini : entryFor table initId = some B)
    (born : codeAny (model P w) A.in1 (.call (.builtin newId) ⟨.type T :: args, []⟩) (wants Q₁ E) s)
    (filled : ∀ o u, Q₁ o u → u.TypeIs o T ∧ codeAny (model P w) A.in1 (.call (.builtin initId) ⟨o :: args, []⟩) (wants (fun r u' => r = .none ∧ Q o u') E) u) :
    wpAny (model P w) A (call (.type T) args) Q E s := by
  have ⟨⟨c, tl, hm⟩, x1, x2, x3, x4⟩ := And.intro ft.mro (And.intro ft.made (And.intro ft.sub (And.intro ft.notType ft.canCreate)))
  refine wpAny_call (codeAny_of_tree (show wpAny _ _ (callAny (.type T) _) _ _ _ from wpAny_pure ⟨Code.quiet_builtin _ (by decide +kernel), codeAny_builtin F.entry_type_call ?_⟩))
  rw [Around.under_plain (weight_type_call_type T args []) rfl]
  repeat (any_goals (first | assumption | wp_step))
  refine codeAny_mono born fun r u h => ?_
  match r, h with
  | .ok (.ret o), h =>
    have ⟨ty, last⟩ := filled _ _ h
    have y1 := ft.init.lookup
    have y2 := ft.init.bind o
    repeat (any_goals (first | assumption | wp_step))
    refine codeAny_mono last fun r2 u2 h2 => ?_
    match r2, h2 with
    | .ok (.ret q), ⟨e, h3⟩ =>
      subst e
      repeat (any_goals (first | assumption | wp_step))
    | .error e, h3 => exact h3
  | .error e, h => exact h
/-- set(xs) of a list of whole numbers -/
theorem set_of_list {a : Addr} {us : Array Value} (ns : List Int) {Q : Value → Shared → Prop} (quiet : A.handled = none) (at_ : s.heap.IsList a us) (whole : IntsAre us.toList ns) (few : ns.length + 1 < scanBound)
    (go : ∀ (h' : Heap) (tk c : Nat), SetR w h' s.heap.objs.size (fun j => decide (j ∈ ns)) c → (∀ b o, s.heap.get? b = some o → h'.get? b = some o) → Q (.ref s.heap.objs.size) { s with heap := h', toks := tk }) :
    wpAny (model P w) A (call (.type "set") [.ref a]) Q E s := by
  refine type_makes (Q₁ := fun o u => o = .ref s.heap.objs.size ∧ u = { s with heap := s.heap.push (bare w) }) F.called_set (F.typeCall_set_1 _) F.entry_set_init (code_set_led1 _ ⟨rfl, rfl⟩) ?_
  rintro _ _ ⟨rfl, rfl⟩
  have here : (s.heap.push (bare w)).get? s.heap.objs.size = some (bare w) := Heap.get?_push_size _ rfl
  refine ⟨⟨_, here, rfl⟩, codeAny_call_builtin F.called_set.init.plain F.entry_set_init (check_set_init_1 ⟨_, here, rfl⟩ ?_)⟩
  · obtain ⟨o, ho, hc, nl, hd⟩ := at_
    obtain ⟨oc, od, odat, osl⟩ := o
    dsimp only at hc hd
    subst hc hd
    have ho2 : (s.heap.push (bare w)).get? a = some { cls := .type "list", dict := od, data := .seq us nl, slots := osl } := Heap.get?_push_of_some _ ho
    have list2 : (s.heap.push (bare w)).IsList a us := ⟨_, ho2, rfl, nl, rfl⟩
    have n1 := F.sub_list_set
    have n2 := F.sub_list_frozenset
    have n3 : (Value.type "list" == Value.type "dict") = false := by decide
    unfold Builtin.«set.__init__» noKeywords Builtin.Frozenset.updateFrom
    generalize hp : pyIter = iter_
    wp_walk
    subst hp
    refine wpAny_pyIter_list list2 (wpAny_bind (wpAny_runValue ?_))
    have below : a < s.heap.objs.size := Heap.lt_size ho
    have grown : (s.heap.push (bare w)).objs.size = s.heap.objs.size + 1 := Heap.size_push ..
    have long : us.size = ns.length := by
      have z := IntsAre.length whole
      rwa [Array.length_toList] at z
    have apart : a ≠ (s.heap.push (bare w)).objs.size := by
      rw [grown]
      exact Nat.ne_of_lt (Nat.lt_succ_of_lt below)
    refine set_update_ints ((Walks.list (by simp [quiet]) _ a apart us).toS) s.heap.objs.size ?out ns long few ?vals us.size 0 _ rfl (Nat.zero_le _) ⟨⟨_, Heap.get?_push_size _ rfl, rfl, rfl⟩, list2.push _⟩ ⟨0, Nat.le_refl 0, setR_new_at (Heap.get?_push_of_some _ here)⟩ ?end_
    case out =>
      rw [grown]
      simp only [List.mem_cons, List.not_mem_nil, or_false, not_or]
      exact ⟨Nat.ne_of_lt (Nat.lt_succ_self _), Nat.ne_of_gt below⟩
    case vals =>
      intro i v hv
      have hi : i < ns.length := by
        rw [← long]
        exact (Array.getElem?_eq_some_iff.mp hv).1
      obtain ⟨t, e⟩ := IntsAre.int_at whole i v (by rw [Array.getElem?_toList]; exact hv)
      exact ⟨ns[i], t, List.getElem?_eq_getElem hi, by rw [e, List.getD_eq_getElem?_getD, List.getElem?_eq_getElem hi]; rfl⟩
    case end_ =>
      intro s2 c moved _ made
      have same : s2 = { s with heap := s2.heap, toks := s2.toks } := by
        have g1 := moved.gens
        have g2 := moved.drawn
        have g3 := moved.os
        cases s2
        cases s
        cases g1
        cases g2
        cases g3
        rfl
      refine wpAny_pure ?_
      show wpAny _ _ (ret Value.none) _ _ _
      refine wpAny_pure ⟨rfl, ?_⟩
      rw [same]
      refine go _ _ c made fun b o e => ?_
      have hb := Heap.lt_size e
      refine moved.heap b o ?_ (Heap.get?_push_of_some _ (Heap.get?_push_of_some _ e))
      rw [grown]
      simp only [List.mem_cons, List.not_mem_nil, or_false, not_or]
      exact ⟨Nat.ne_of_lt hb, Nat.ne_of_lt (Nat.lt_succ_of_lt hb)⟩
end

/-- what a set of n members has, as a row without doubles -/
def Mem (S : Int → Bool) (n : Nat) : Prop := ∃ ms : List Int, ms.Nodup ∧ ms.length = n ∧ ∀ k, S k = true ↔ k ∈ ms
theorem setR_mem {w : World} {h : Heap} {a : Addr} {S : Int → Bool} {n : Nat} (R : SetR w h a S n) : Mem S n := by
  obtain ⟨o, es, ep, t, _, _, _, _, nd, hm, _, _, hn, _⟩ := R
  exact ⟨_, nd, by rw [List.length_map, Array.length_toList]; exact hn, hm⟩
def rSetI (K : PySem.W.Frag) (w : World) : List V → Hp → VK → Prop := fun vs H Q => ∃ (a : Addr) (ns : List Int), vs = [V.ref a] ∧ SqL K H a (ns.map V.int) ∧ ns.length ≤ 1000 ∧
  ∀ (p : Addr) (S : Int → Bool) (n : Nat), Mem S n → (∀ k, S k = true ↔ k ∈ ns) → H p = none → Q (.ref p) (upd H p (SetO w p S n))
theorem cr_setI {X : Cx} {K : PySem.W.Frag} (hc : X.calm = true) (hK : X.K = K := by rfl) : CallR X (.type "set") (rSetI K X.w) := by
  subst hK
  intro pins s σ H vs us Q I r h
  obtain ⟨a, ns, rfl, hs, hl, q⟩ := h
  rw [Vals.ref1 r]
  obtain ⟨its, rv, at_, _⟩ := I.list hs
  refine set_of_list ns (I.ok.hd hc) at_.isList rv.ints (by unfold scanBound; omega) fun h' tk c R k => ?_
  exact ⟨.ref _, upd H s.heap.objs.size (SetO X.w s.heap.objs.size _ c), I.laid (t' := tk) k (Nat.le_refl _) (setO_new R), rfl, q _ _ c (setR_mem R) (fun k => by simp) (I.hok.fresh (Nat.le_refl _))⟩
end PK

set_option Elab.async false
set_option linter.all false
set_option maxRecDepth 100000
/-! A set comprehension, whatever its set holds. -/
namespace PK
open PySem PySem.Spec PyProof.Rows L2
section
variable {Y : Cx} {tg iter elt : Expr} {ifs : List Expr} {scope : Scope} {pos : Pos} {J : It} {fp : List Addr} {it D : Addr} {tn : Nat → Heap → Prop} {g : TG} {tt : TT} {te : TE} {σ0 : L2.St}
/-- set.add, by what it does to the heap -/
def Adds (Y : Cx) (D : Addr) (Ad : V → Hp → Hp → Prop) : Prop := ∀ (pins : List (Addr × Obj)) (σ : L2.St) (H H' : Hp) (s : Shared) (v : V) (u : Value) (E : Value → Shared → Prop) (Q : Value → Shared → Prop), Inv Y pins σ H s → RelV v u → Ad v H H' →
  (∀ s', Inv Y pins σ H' s' → Q .none s') → wpAny (model Y.prog Y.w) Y.A (call (.builtin "set.add") [.ref D, u]) Q E s
/-- one turn of the block, or its end -/
def Turns (J : It) (g : TG) (tt : TT) (te : TE) (vs : List Nat) (σ0 : L2.St) (Ad : V → Hp → Hp → Prop) (W : Nat → Nat → Hp → Prop) (End : Hp → Prop) : Prop := ∀ i m H, W i m H →
  (J.stop i H ∧ End H) ∨ (J.go i H ∧ ∃ N : Hp → Prop, (∀ H', N H' → ∃ m', m' < m ∧ W (i + 1) m' H') ∧
    ∀ x H', J.yld i H x H' → g x σ0 H' fun σ2 H2 => wipe σ2 vs = σ0 ∧ tt σ2 H2 fun b H3 => if b = true then te σ2 H3 fun y H4 => ∃ H5, Ad y H4 H5 ∧ N H5 else N H3)
theorem gather (calm : Y.calm = true) (dry : Y.xe = fun _ _ => False) (T : Turn Y.prog Y.w Y.K tg J fp it tn) (rg : PG Y tg g) (rt : PTs Y ifs tt) (re : PE Y elt te) {Ad : V → Hp → Hp → Prop} (adds : Adds Y D Ad)
    (alive : ∀ H σ s, Inv Y [] σ H s → (∀ b ∈ fp, H b = none) → ∀ b ∈ fp, FpOk Y [] H b) {vs : List Nat} {W : Nat → Nat → Hp → Prop} {End : Hp → Prop} {R : Result → Shared → Prop} (turns : Turns J g tt te vs σ0 Ad W End)
    (ends : ∀ H s, Inv Y [] σ0 H s → End H → R (.ok .next) s) {m : Nat} {s : Shared} {H : Hp} (I : Inv Y [] σ0 H s) (t0 : tn 0 s.heap) (free : ∀ b ∈ fp, H b = none) (w0 : W 0 m H) :
    codeAny (model Y.prog Y.w) Y.A (.compLoop (.SetComp elt [⟨tg, iter, ifs, 0⟩] scope pos) 0 (.ref it) (.ref D) Y.env) R s := by
  refine PpSet.compLoopS_any (fun k u => ∃ j G, W j k G ∧ Inv Y [] σ0 G u ∧ tn j u.heap ∧ ∀ b ∈ fp, G b = none) (fun k u ⟨j, G, w, IG, tj, fr⟩ => ?_) m ⟨0, H, w0, I, t0, free⟩
  have up := alive G _ u IG fr
  rcases turns j k G w with ⟨over, fin⟩ | ⟨more, N, next, go⟩
  · exact thnF (T.done Y rfl rfl rfl calm j [] u σ0 G _ IG up tj over) fun r u1 ⟨e, I1⟩ => by
      subst e
      exact ends G u1 I1 fin
  · refine thnF (T.item Y rfl rfl rfl calm j [] u σ0 G _ IG up tj more) fun r u1 ⟨v, e, h1⟩ => ?_
    subst e
    refine thnF h1 fun _ u2 ⟨x, G2, I2, rx, yx, t2, fr2⟩ => ?_
    have held := I2.pinned (alive G2 _ u2 I2 fr2) (T.obj _ _ t2)
    -- where a turn comes out
    have back : ∀ (σ2 : L2.St) (u' : Shared) (G' : Hp), wipe σ2 vs = σ0 → Inv Y ([] ++ pinsAt fp u2.heap) σ2 G' u' → N G' → ∃ k', k' < k ∧ ∃ j' G'', W j' k' G'' ∧ Inv Y [] σ0 G'' u' ∧ tn j' u'.heap ∧ ∀ b ∈ fp, G'' b = none := fun σ2 u' G' wp I' n' => by
      obtain ⟨k', lt, w'⟩ := next G' n'
      have stay : ∀ b ∈ fp, ∀ o, u2.heap.get? b = some o → u'.heap.get? b = some o ∧ G' b = none := fun b hb o e => by
        have z := I'.pin (b, o) (List.mem_append_right _ (List.mem_append_right _ (mem_pinsAt hb e)))
        exact ⟨z.1, z.2.1⟩
      refine ⟨k', lt, j + 1, G', w', ?_, T.keep _ _ _ t2 fun b hb o e => (stay b hb o e).1, fun b hb => ?_⟩
      · refine (Inv.unpinned (pins := []) I').weak (by rw [← wp, wipe_length]) fun a y e => ?_
        rw [← wp] at e
        exact (wipe_some e).1
      · obtain ⟨o, e, _⟩ := T.obj _ _ t2 b hb
        exact (stay b hb o e).2
    have r1 := rg.run _ u2 σ0 G2 x v _ held rx (go x G2 yx)
    rw [dry] at r1
    refine thnF r1 fun _ u3 ⟨σ3, G3, I3, wp, h3⟩ => ?_
    have r2 := rt.run _ u3 σ3 G3 _ I3 h3
    rw [dry] at r2
    refine thnF r2 fun b u4 ⟨G4, I4, h4⟩ => ?_
    cases b with
    | false => exact back σ3 u4 G4 wp I4 (by simpa using h4)
    | true =>
      have r3 := re.run _ u4 σ3 G4 _ I4 (by simpa using h4)
      rw [dry] at r3
      exact thnF r3 fun z u5 ⟨y, G5, I5, ry, G6, ad, n6⟩ => adds _ σ3 G5 G6 u5 y z _ _ I5 ry ad fun u6 I6 => back σ3 u6 G6 wp I6 n6
end
/-- a set comprehension: O, the set as it comes; Ad, what a member does to it -/
def tColl (O : Addr → HO) (Ad : Addr → V → Hp → Hp → Prop) (wi : TI) (g : TG) (tt : TT) (te : TE) (vs : List Nat) : TE := fun σ H Q => wi σ H fun J H1 => ∀ D, H1 D = none →
  ∃ W : Nat → Nat → Hp → Prop, (∃ m, W 0 m (upd H1 D (O D))) ∧ Turns J g tt te vs (wipe σ vs) (Ad D) W (Q (.ref D))
section
variable {X : Cx} {tg iter elt : Expr} {ifs : List Expr} {scope : Scope} {pos : Pos} {g : TG} {tt : TT} {te : TE} {wi : TI} {own : List (PySem.Str × Nat)} {O : Addr → HO} {Ad : Addr → V → Hp → Hp → Prop}
theorem pe_coll (calm : X.calm = true) (nodup : X.N.Nodup) (walks : PI X tg iter wi) (ok : BlkOk X.N X.env.scope scope own)
    (meets : ∀ u G C cl fp, PG (X.blk u G scope (compEnvC scope cl C X.env) fp) tg g) (tests : ∀ u G C cl fp, PTs (X.blk u G scope (compEnvC scope cl C X.env) fp) ifs tt) (elts : ∀ u G C cl fp, PE (X.blk u G scope (compEnvC scope cl C X.env) fp) elt te)
    (comes : ∀ (h : Heap) (G : Hp), ObjOk X.prog X.w G (h.push (bare X.w)) h.objs.size (O h.objs.size)) (adds : ∀ (Y : Cx) D, Y.prog = X.prog → Y.w = X.w → Adds Y D (Ad D))
    (folds : ∀ x, foldedSetIterable iter X.env x = pure x := by intro _; rfl) : PE X (.SetComp elt [⟨tg, iter, ifs, 0⟩] scope pos) (tColl O Ad wi g tt te (own.map (·.2))) := by
  refine ⟨fun pins s σ H Q I want => ?_⟩
  rw [PpSet.eval_SetComp]
  have known : ∀ y ∈ scope.names, y.2 = .free → ∃ c, X.env.cells.lookup y.1 = some c := fun y hy e =>
    (ok.free y hy e).elim (fun z => I.ok.has _ (.inl z)) (fun z => I.ok.has _ (.inr z))
  refine wpAny_comprehension_free (use := none) rfl folds (closure_ok known) ok.kind (fun y hy e => (ok.uniq y hy).trans (by rw [e])) (thn (walks.run pins s σ H _ I want) fun v s1 h1 => thn h1 fun iv s2 h2 => ?_)
  obtain ⟨it, fp, tn, J, H2, e, I2, T, t2, f2, q⟩ := h2
  subst e
  refine PpSet.newSet_ok (newEnv_comp ?_)
  obtain ⟨W, ⟨m, w0⟩, turns⟩ := q s2.heap.objs.size (I2.hok.fresh (Nat.le_refl _))
  have I3 : Inv X pins σ (upd H2 s2.heap.objs.size (O s2.heap.objs.size)) { s2 with heap := s2.heap.push (bare X.w) } :=
    I2.laid (t' := s2.toks) (fun b o e => Heap.get?_push_of_some _ e) (Nat.le_refl _) (comes _ _)
  generalize hD : s2.heap.objs.size = D at *
  generalize hG : upd H2 D (O D) = G at *
  have fp3 : ∀ b ∈ fp, FpOk X pins G b ∧ b < (s2.heap.push (bare X.w)).objs.size := fun b hb => by
    obtain ⟨o, e, _⟩ := T.obj _ _ t2 b hb
    have lt := Heap.lt_size e
    refine ⟨⟨?_, (f2 b hb).2⟩, Nat.lt_of_lt_of_le lt (by rw [Heap.size_push]; exact Nat.le_succ _)⟩
    rw [← hG, upd_ne (by rw [← hD]; exact Nat.ne_of_lt lt)]
    exact (f2 b hb).1
  have t3 : tn 0 (s2.heap.push (bare X.w)) := T.keep _ _ _ t2 fun b _ o e => Heap.get?_push_of_some _ e
  generalize hu : ({ s2 with heap := s2.heap.push (bare X.w) } : Shared) = u at *
  have hu' : s2.heap.push (bare X.w) = u.heap := by rw [← hu]
  rw [hu'] at fp3 t3
  have I4 := block_start I3 ok nodup fp3
  have t4 : tn 0 (pushCells (u.heap.push { cls := .type "dict", data := .dict #[] }) scope.names) := T.keep _ _ _ t3 fun b _ o e => pushCells_keeps _ _ _ _ (Heap.get?_push_of_some _ e)
  have rg := meets u G u.heap.objs.size (cellsFrom (u.heap.objs.size + 1) scope.names (cloFrom X.env.cells scope.names [])) fp
  have rt := tests u G u.heap.objs.size (cellsFrom (u.heap.objs.size + 1) scope.names (cloFrom X.env.cells scope.names [])) fp
  have re := elts u G u.heap.objs.size (cellsFrom (u.heap.objs.size + 1) scope.names (cloFrom X.env.cells scope.names [])) fp
  have runs := gather (Y := X.blk u G scope (compEnvC scope (cellsFrom (u.heap.objs.size + 1) scope.names (cloFrom X.env.cells scope.names [])) u.heap.objs.size X.env) fp) (elt := elt) (iter := iter) (scope := scope) (pos := pos) (D := D) (R := compPost (model X.prog X.w) X.A X.xe none (EP X pins σ Q) (.ref D) u.heap.objs.size) calm rfl T rg rt re (adds _ D rfl rfl)
    (fun K σ' u' I' fr b hb => ⟨fr b hb, (I'.ok.exf b hb).1, I'.ok.exfs b hb, .inl hb, fun x c e => (I'.ok.exf b hb).2 x c e, fun p hp => by simp [Cx.blk] at hp⟩) turns
    (fun K u' I' fin => by
      have gone : K u.heap.objs.size = none := I'.free
      obtain ⟨n, ns, _⟩ := I'.loc
      obtain ⟨c0, c1, _, c3, c4, c5⟩ := I3.fpOk (Nat.le_refl _) gone
      have I5 : Inv X pins σ K u' := I3.call' (ch := fp) I'.os I'.base I'.hok I'.bare fun b hb => by
        obtain ⟨⟨_, a1, _, a3, a4, a5⟩, _⟩ := fp3 b hb
        exact ⟨a3, a1, a4, a5⟩
      exact ⟨n, ns, fun h2 sb => ⟨.ref D, K, I5.turned (t' := u'.toks) (fun b o hb e => (sb.2 b hb).trans e) c0 c1 c3 c4 c5, rfl, fin⟩⟩) I4 t4 (fun b hb => (fp3 b hb).1.1) w0
  exact PpSet.codeAny_compStart_set runs (T.self X.A 0 _ _ _ t4 runs)
end
/-! ### of whole numbers -/
def OI (w : World) (D : Addr) : HO := SetO w D (fun _ => false) 0
def AdI (w : World) (D : Addr) (v : V) (H H' : Hp) : Prop := ∃ (c : Int) (S : Int → Bool) (n : Nat), v = .int c ∧ H D = some (SetO w D S n) ∧ n + 1 < scanBound ∧ H' = upd H D (SetO w D (fun j => S j || decide (j = c)) (if S c = true then n else n + 1))
theorem addsI {w : World} (Y : Cx) (D : Addr) (e : Y.w = w) : Adds Y D (AdI w D) := by
  subst e
  intro pins σ H H' s v u E Q I rv ⟨c, S, n, ev, at_, room, eH⟩ k
  subst ev eH
  obtain ⟨tk, rfl⟩ := rv
  refine setR_add (setO_get I at_) room fun h2 sb made => ?_
  have ⟨o, _, _, _, ho, _⟩ := made
  exact k _ (I.write (e := D) (t' := s.toks + 1) (by rw [at_]; trivial) (.inl rfl) (fun b x hb hx => (sb.2 b hb).trans hx) ⟨o, ho⟩ (setO_new made))
section
variable {X : Cx} {tg iter elt : Expr} {ifs : List Expr} {scope : Scope} {pos : Pos} {g : TG} {tt : TT} {te : TE} {wi : TI} {own : List (PySem.Str × Nat)}
theorem pe_collI (calm : X.calm = true) (nodup : X.N.Nodup) (walks : PI X tg iter wi) (ok : BlkOk X.N X.env.scope scope own)
    (meets : ∀ u G C cl fp, PG (X.blk u G scope (compEnvC scope cl C X.env) fp) tg g) (tests : ∀ u G C cl fp, PTs (X.blk u G scope (compEnvC scope cl C X.env) fp) ifs tt) (elts : ∀ u G C cl fp, PE (X.blk u G scope (compEnvC scope cl C X.env) fp) elt te)
    (folds : ∀ x, foldedSetIterable iter X.env x = pure x := by intro _; rfl) : PE X (.SetComp elt [⟨tg, iter, ifs, 0⟩] scope pos) (tColl (OI X.w) (AdI X.w) wi g tt te (own.map (·.2))) :=
  pe_coll calm nodup walks ok meets tests elts (fun h G => setO_new (setR_fresh X.w)) (fun Y D _ e => addsI Y D e) folds
end
/-! ### how a set comprehension is met -/
def Co (O : Addr → HO) (Ad : Addr → V → Hp → Hp → Prop) (J : It) (g : TG) (tt : TT) (te : TE) (vs : List Nat) (σ : L2.St) (H1 : Hp) (Q : VK) : Prop := ∀ D, H1 D = none →
  ∃ W : Nat → Nat → Hp → Prop, (∃ m, W 0 m (upd H1 D (O D))) ∧ Turns J g tt te vs (wipe σ vs) (Ad D) W (Q (.ref D))
section
variable {O : Addr → HO} {Ad : Addr → V → Hp → Hp → Prop} {J : It} {n : Nat} {G : Hp → Prop} {Y : Nat → Hp → V → Hp → Prop} {g : TG} {tt : TT} {te : TE} {vs : List Nat} {σ : L2.St} {H : Hp} {Q : VK} {wi : TI}
theorem w_coll (k : wi σ H fun J H1 => Co O Ad J g tt te vs σ H1 Q) : tColl O Ad wi g tt te vs σ H Q := k
theorem co_go (wk : Walk J n G Y) (R : Addr → Nat → Hp → Prop) (h0 : ∀ D, H D = none → R D 0 (upd H D (O D))) (hG : ∀ D i H', i ≤ n → R D i H' → G H')
    (hs : ∀ D i x H' H2, H D = none → i < n → R D i H' → Y i H' x H2 → g x (wipe σ vs) H2 fun σ2 H3 => wipe σ2 vs = wipe σ vs ∧ tt σ2 H3 fun b H4 => if b = true then te σ2 H4 fun y H5 => ∃ H6, Ad D y H5 H6 ∧ R D (i + 1) H6 else R D (i + 1) H4)
    (hd : ∀ D H', H D = none → R D n H' → Q (.ref D) H') : Co O Ad J g tt te vs σ H Q := fun D nD =>
  ⟨fun i m H' => m = n - i ∧ i ≤ n ∧ R D i H', ⟨n, rfl, Nat.zero_le _, h0 D nD⟩, fun i m H' ⟨e, l, r⟩ => by
    by_cases lt : i < n
    · exact .inr ⟨wk.goes i H' lt (hG D i H' l r), R D (i + 1), fun H2 r2 => ⟨n - (i + 1), by omega, rfl, lt, r2⟩, fun x H2 y => hs D i x H' H2 nD lt r (wk.yields i H' x H2 lt (hG D i H' l r) y)⟩
    · obtain rfl : i = n := by omega
      exact .inl ⟨wk.stops H' (hG D i H' l r), hd D H' nD r⟩⟩
end
end PK

set_option Elab.async false
set_option linter.all false
set_option maxRecDepth 100000
/-! match on a tuple: a word first, then names. -/
namespace PK
open PySem L2 PyProof.Rows
/-- where the rest of a pattern's items go: nowhere, or to the name at this place -/
def gCaps : List (Option Nat) → List V → L2.St → L2.St
  | none :: g, _ :: vs, σ => gCaps g vs σ
  | some i :: g, v :: vs, σ => gCaps g vs (σ.set i (some v))
  | _, _, σ => σ
inductive Caps (X : Cx) : List Pattern → List (Option Nat) → Prop where
  | nil : Caps X [] []
  | skip {ps : List Pattern} {g : List (Option Nat)} {pos : Pos} : Caps X ps g → Caps X (.MatchAs none none pos :: ps) (none :: g)
  | name {ps : List Pattern} {g : List (Option Nat)} {pos : Pos} {x : Str} {i : Nat} : X.N[i]? = some x → X.env.scope.names.lookup x = some .local → Caps X ps g → Caps X (.MatchAs none (some x) pos :: ps) (some i :: g)
theorem Caps.length {X : Cx} : ∀ {ps : List Pattern} {g : List (Option Nat)}, Caps X ps g → g.length = ps.length
  | _, _, .nil => rfl
  | _, _, .skip c => by rw [List.length_cons, List.length_cons, c.length]
  | _, _, .name _ _ c => by rw [List.length_cons, List.length_cons, c.length]
theorem Caps.noStar {X : Cx} : ∀ {ps : List Pattern} {g : List (Option Nat)}, Caps X ps g → ps.findIdx? (·.isStar) = none
  | _, _, .nil => rfl
  | _, _, .skip c => by rw [List.findIdx?_cons, c.noStar]; rfl
  | _, _, .name _ _ c => by rw [List.findIdx?_cons, c.noStar]; rfl
/-- what the names of such a row get -/
def bound : List Pattern → List Value → List (Str × Value)
  | .MatchAs none n _ :: ps, u :: us => (n.map (·, u)).toList ++ bound ps us
  | _, _ => []
section
variable {X : Cx}
theorem Caps.each {A : Around} {E : Value → Shared → Prop} : ∀ {ps : List Pattern} {g : List (Option Nat)} {us : List Value} {s : Shared} {Q : Option (List (Str × Value)) → Shared → Prop}, Caps X ps g → us.length = ps.length →
    Q (some (bound ps us)) s → wpAny (model X.prog X.w) A (matchEach ps X.env us) Q E s
  | _, _, [], _, _, .nil, _, h => wpAny_matchEach_nil h
  | _, _, _ :: _, _, _, .nil, e, _ => by cases e
  | _, _, [], _, _, .skip _, e, _ => by cases e
  | _, _, [], _, _, .name _ _ _, e, _ => by cases e
  | _, _, u :: us, _, _, .skip c, e, h => wpAny_matchEach_cons (wpAny_matchPattern_Capture (c.each (by simpa using e) h))
  | _, _, u :: us, _, _, .name _ _ c, e, h => wpAny_matchEach_cons (wpAny_matchPattern_Capture (c.each (by simpa using e) h))
theorem Caps.store {pins : List (Addr × Obj)} {H : Hp} {A : Around} {E : Value → Shared → Prop} (hN : X.N.Nodup) : ∀ {ps : List Pattern} {g : List (Option Nat)} {vs : List V} {us : List Value} {σ : L2.St} {s : Shared} {Q : Unit → Shared → Prop}, Caps X ps g → Vals vs us → us.length = ps.length →
    Inv X pins σ H s → (∀ s', Inv X pins (gCaps g vs σ) H s' → Q () s') →
    wpAny (model X.prog X.w) A (assignInOrder ((bound ps us).map fun p => bindName X.env p.1) ((bound ps us).map (·.2))) Q E s
  | _, _, _, _, _, _, _, .nil, r, e, I, h => by
    cases r with
    | nil => exact assignInOrder_nil (h _ I)
    | cons _ _ => cases e
  | _, _, _, _, _, _, _, .skip c, r, e, I, h => by
    cases r with
    | nil => cases e
    | cons r1 r2 => exact c.store hN r2 (by simpa using e) I h
  | _, _, _, _, _, _, _, .name hi hl c, r, e, I, h => by
    cases r with
    | nil => cases e
    | cons r1 r2 =>
      exact assignInOrder_cons (wpAny_bindName (store_ok I hN hi (.inl hl) r1 (fun s' I' => c.store hN r2 (by simpa using e) I' h) (.inr hl)))
/-- the cases of a match, read of the subject's value -/
abbrev TC := V → TS
structure PCs (X : Cx) (cs : List MatchCase) (t : TC) : Prop where
  run : ∀ (pins : List (Addr × Obj)) (s : Shared) (σ : L2.St) (H : Hp) (v : V) (u : Value) (first : Bool) (D : Ends), Inv X pins σ H s → RelV v u → t v D σ H → wpAny (model X.prog X.w) X.A (matchCases cs X.env u first) (SP X pins D) X.xe s
def cNil : TC := fun _ D σ H => D.nx σ H
theorem pcs_nil : PCs X [] cNil := ⟨fun pins s σ H v u first D I r h => wpAny_matchCases_nil ⟨σ, H, I, h⟩⟩
/-- a word and names, of a tuple -/
def cWord (K : PySem.W.Frag) (r : R2) (w : Str) (g : List (Option Nat)) (t : TS) (tc : TC) : TC := fun v D σ H => ∃ a xs, v = .ref a ∧ SqT K H a xs ∧
  (if xs.length = g.length + 1 then ∀ x ys, xs = x :: ys → r x (.str w) H fun z H1 => ∃ c, z = .bl c ∧ if c = true then t D (gCaps g ys σ) H1 else tc v D σ H1 else tc v D σ H)
theorem pcs_word {w : Str} {ps : List Pattern} {g : List (Option Nat)} {body : List Stmt} {rest : List MatchCase} {t : TS} {tc : TC} {r : R2} {j : Nat} {p1 p2 p3 : Pos} (hN : X.N.Nodup) (hc : X.calm = true) (ho : OpR X (compareOp .Eq) r) (h1 : Caps X ps g) (h2 : PSs X body t) (h3 : PCs X rest tc) :
    PCs X (⟨.MatchSequence (.MatchValue (.Constant (.str w) j p1) p2 :: ps) p3, none, body⟩ :: rest) (cWord X.K r w g t tc) := by
  refine ⟨fun pins s σ H v u first D I rv h => ?_⟩
  obtain ⟨a, xs, rfl, hq, h⟩ := h
  cases rv
  obtain ⟨its, rv, ht, hz⟩ := I.tuple hq
  have hl := rv.length
  have hgl := h1.length
  have hfit : (its.toArray.size : Int) < 2 ^ 63 := by
    have : sizeLine < 2 ^ 63 := by decide
    simp only [List.size_toArray]
    omega
  have hst : ((Pattern.MatchValue (.Constant (.str w) j p1) p2) :: ps).findIdx? (·.isStar) = none := by rw [List.findIdx?_cons, h1.noStar]; rfl
  have hwd : (((Pattern.MatchValue (.Constant (.str w) j p1) p2) :: ps).all fun p => p.isWildcard || (p.isStar && p.names.isEmpty)) = false := by rw [List.all_cons]; rfl
  have I0 : ∀ t, Inv X pins σ H { s with toks := t } := fun t => I.tok _
  refine wpAny_matchCases_cons ?_
  by_cases hn : xs.length = g.length + 1
  · rw [if_pos hn] at h
    refine matchSeq_tuple_hit ht hfit (by simp only [List.size_toArray, List.length_cons]; omega) ?_ hst hwd
    have e0 : (Pattern.MatchValue (.Constant (.str w) j p1) p2 :: ps).length = its.toArray.size := by simp only [List.size_toArray, List.length_cons]; omega
    rw [e0]
    refine unpackItems_tuple (I.ok.hd hc) ht fun h' hx => ?_
    have I1 : Inv X pins σ H { s with heap := h', toks := s.toks + 1 + 1 } := I.kept (t' := s.toks + 1 + 1) fun b o e => hx b o (Nat.ne_of_lt (Heap.lt_size e)) e
    cases rv with
    | nil => simp at hn
    | cons rx ry =>
      rename_i x u1 ys us
      have h := h x ys rfl
      refine wpAny_matchEach_cons (wpAny_matchPattern_Value (Calls.Constant_str ?_))
      refine thn (ho pins _ σ H x (.str w) u1 _ _ (I1.tok _) rx ⟨_, rfl⟩ h) fun c s2 hz => ?_
      obtain ⟨z, H1, I2, rz, c, e, q⟩ := hz
      subst e
      cases rz
      refine wpAny_truthy_bool ?_
      have hl2 : us.length = ps.length := by simp only [List.length_cons] at hl hn; omega
      cases c with
      | true =>
        rw [if_pos rfl] at q
        refine h1.each hl2 ?_
        refine h1.store hN ry hl2 I2 fun s3 I3 => ?_
        exact h2.run pins s3 _ H1 D I3 q
      | false =>
        rw [if_neg (by decide)] at q
        exact h3.run pins s2 σ H1 (.ref a) _ _ D I2 rfl q
  · rw [if_neg hn] at h
    refine matchSeq_tuple_miss ht hfit (by simp only [List.size_toArray, List.length_cons]; omega) ?_ hst hwd
    exact h3.run pins _ σ H (.ref a) _ _ D (I0 _) rfl h
def tMatch (te : TE) (tc : TC) : TS := fun D σ H => te σ H fun v H1 => tc v D σ H1
theorem ps_match {e : Expr} {cs : List MatchCase} {te : TE} {tc : TC} {pos : Pos} (he : PE X e te) (hc : PCs X cs tc) : PS X (.Match e cs pos) (tMatch te tc) :=
  ⟨fun pins s σ H D I h => wpAny_Match (thn (he.run pins s σ H _ I h) fun u s1 ⟨v, H1, I1, r, q⟩ => hc.run pins s1 σ H1 v u true D I1 r q)⟩
end
end PK

set_option Elab.async false
set_option linter.all false
set_option maxRecDepth 100000
/-! t[::-1] of a short tuple. -/
namespace PK
open PySem L2 PySem.Spec PyProof.Rows HT
section
variable {prog : Program} {w : World} {A : Around} {E : Value → Shared → Prop} {s : Shared}
theorem back_parts {sl : Addr} {vs : Value} {n : Nat} {Q : Int × Int × Nat → Shared → Prop} (hs : s.heap.IsSliceOf sl .none .none vs) (pv : IsPart vs (some (-1))) (hn : n ≤ 2)
    (h : Q (((n : Int) - 1), -1, n) s) : wpAny (model prog w) A (Builtin.Slice.sliceApplied (.ref sl) (pure (n : Int))) Q E s := by
  obtain ⟨os, hos, hcs, hds⟩ := id hs
  unfold Builtin.Slice.sliceApplied Builtin.Slice.sliceFields
  refine wpAny_bind (wpAny_bind (wpAny_field hos hds (x := .none) rfl (wpAny_bind (wpAny_field hos hds (x := .none) rfl (wpAny_bind (wpAny_field hos hds (x := vs) rfl (wpAny_pure ?_)))))))
  refine wpAny_bind (slicePart_ pv ?_)
  show wpAny _ _ (if ((-1 : Int) == 0) = true then _ else _) _ _ s
  rw [if_neg (by decide)]
  refine wpAny_bind (slicePart_none (wpAny_bind (slicePart_none (wpAny_bind (wpAny_pure ?_)))))
  match n, hn with
  | 0, _ => exact wpAny_pure h
  | 1, _ => exact wpAny_pure h
  | 2, _ => exact wpAny_pure h
theorem back_item {t sl : Addr} {items : Array Value} {vs : Value} {Q : Value → Shared → Prop} (ht : IsTup s.heap t items) (hs : s.heap.IsSliceOf sl .none .none vs) (pv : IsPart vs (some (-1))) (hn : items.size ≤ 2)
    (h : Q (.ref s.heap.objs.size) { s with heap := s.heap.push { cls := .type "tuple", data := .seq items.toList.reverse.toArray } }) : wpAny (model prog w) A (getItem (.ref t) (.ref sl)) Q E s := by
  have hz : sizeOk (.seq items.toList.reverse.toArray) := by
    show items.toList.reverse.toArray.size ≤ sizeLine
    rw [List.size_toArray, List.length_reverse, Array.length_toList]
    have : 2 ≤ sizeLine := by decide
    omega
  obtain ⟨os, hos, hcs, hds⟩ := id hs
  have hTs : s.TypeIs (.ref sl) "slice" := ⟨os, hos, hcs⟩
  unfold getItem
  try with_reducible refine wpAny_holding ?_
  first | refine wpAny_bind (wpAny_pure ?_) | skip
  refine wpAny_bind (wpAny_sequenceKey ht.typeIs (by decide) ?_)
  refine wpAny_bind (wpAny_callSpecial?_slot (name := Str.ofString "__getitem__") ht.typeIs PyProof.Rows.slot_tuple_getitem
    (wpAny_call_entry PyProof.Rows.slot_tuple_getitem ht.typeIs entry_tuple_getitem ?_ (args_tuple_getitem _ _)))
  show wpAny _ _ (Builtin.Tuple.tupleItemsOf (.ref t) >>= _) _ _ s
  refine wpAny_bind (tupleItemsOf_ ht ?_)
  refine wpAny_bind (wpAny_typeOf hTs ?_)
  rw [if_pos (by decide)]
  refine wpAny_bind (back_parts hs pv hn ?_)
  show wpAny _ _ (if (((items.size : Int) - 1) == 0 && (-1 : Int) == 1 && items.size == items.size) = true then _ else _) _ _ s
  rw [if_neg (by rw [show ((-1 : Int) == 1) = false from rfl]; simp)]
  have e : ((List.range items.size).filterMap fun (m : Nat) => items[(((items.size : Int) - 1) + (m : Int) * -1).toNat]?).toArray = items.toList.reverse.toArray := by
    obtain ⟨its⟩ := items
    match its, hn with
    | [], _ => rfl
    | [a], _ => rfl
    | [a, b], _ => rfl
    | a :: b :: c :: r, h => simp at h
  rw [e]
  first
    | exact wpAny_bind (m := Builtin.Tuple.tupleExact _) (wpAny_newObj_type (wpAny_pure ⟨_, rfl, wpAny_pure h⟩) hz)
    | exact wpAny_bind (m := Builtin.Tuple.tupleExact _) (wpAny_newObj_type (wpAny_bind (wpAny_pure (wpAny_pure ⟨_, rfl, wpAny_pure h⟩))) hz)
    | exact wpAny_bind (wpAny_bind (m := Builtin.Tuple.tupleExact _) (wpAny_newObj_type (wpAny_pure (wpAny_pure ⟨_, rfl, wpAny_pure h⟩)) hz))
    | exact wpAny_bind (wpAny_bind (m := Builtin.Tuple.tupleExact _) (wpAny_newObj_type (wpAny_pure ⟨_, rfl, wpAny_pure h⟩) hz))
end
def tBack (K : PySem.W.Frag) (te : TE) : TE := fun σ H Q => te σ H fun x H1 => ∃ a xs, x = .ref a ∧ SqT K H1 a xs ∧ xs.length ≤ 2 ∧ ∀ p, H1 p = none → Q (.ref p) (upd H1 p (.tup xs.reverse))
theorem vals_back : ∀ {xs : List V} {us : List Value}, Vals xs us → Vals xs.reverse us.reverse
  | _, _, .nil => .nil
  | _, _, .cons r t => by
    rw [List.reverse_cons, List.reverse_cons]
    exact Vals.append (vals_back t) (.cons r .nil)
theorem pe_back {X : Cx} {e : Expr} {te : TE} {j : Nat} {p1 p2 p3 pos : Pos} (he : PE X e te) : PE X (.Subscript e (.Slice none none (some (.UnaryOp .USub (.Constant (.int 1) j p1) p2)) p3) pos) (tBack X.K te) := by
  refine ⟨fun pins s σ H Q I h => ?_⟩
  refine Subscript_ (thn (he.run pins s σ H _ I h) fun v s1 ⟨x, H1, I1, r1, q1⟩ => ?_)
  obtain ⟨a, xs, rfl, hx, hn, q1⟩ := q1
  cases r1
  have neg : PE X (.UnaryOp .USub (.Constant (.int 1) j p1) p2) (tUn _ (tC (.int 1))) := pe_un un_neg pe_int
  refine wpAny_Slice ?_
  rw [evalPart_none]
  refine wpAny_pure ?_
  refine wpAny_pure ?_
  rw [evalPart_some]
  refine thn (neg.run pins s1 σ H1 (fun z H2 => z = .int (-1) ∧ H2 = H1) I1 ⟨1, rfl, rfl, rfl⟩) fun vk s2 ⟨z, H2, I2, r2, e1, e2⟩ => ?_
  subst e1 e2
  obtain ⟨tk, rfl⟩ := r2
  have I4 : Inv X pins σ H2 { s2 with heap := s2.heap.push { cls := .type "slice", data := .fields #[.none, .none, .int (-1) tk] } } := I2.kept (t' := s2.toks) fun b ob q => Heap.get?_push_of_some _ q
  obtain ⟨its, r, ht, hz⟩ := I4.tuple hx
  have hl := r.length
  refine tail_any (ops := [.ref a, .ref s2.heap.objs.size]) ht.typeIs PyProof.Rows.slot_tuple_getitem.lookup ?_ (by with_unfolding_all rfl)
  refine back_item ht (Heap.IsSliceOf.new ..) (.int _ _) (by rw [List.size_toArray]; omega) ?_
  refine ⟨.ref _, _, I4.laid (t' := s2.toks) (o := .tup xs.reverse) (fun b ob q => Heap.get?_push_of_some _ q) (Nat.le_refl _) ?_, rfl, q1 _ (I4.hok.fresh (Nat.le_refl _))⟩
  refine ⟨by rw [List.length_reverse]; exact hz, its.reverse, vals_back r, ?_⟩
  exact IsTup.new _ _
end PK

set_option Elab.async false
set_option linter.all false
set_option maxRecDepth 100000
/-! Steps for match, for an own class's methods; events and timetables as data tells them. -/
namespace PK
open PySem L2
/-! ### match -/
section
variable {K : PySem.W.Frag} {σ : L2.St} {H : Hp} {D : Ends}
def isW (w : Str) (d : PyData) : Bool := PyData.eqv d (.str w)
theorem isW_str (w x : Str) : isW w (.str x) = decide (x = w) := by
  simp only [isW, PyData.eqv]
  exact Bool.beq_eq_decide_eq x w
theorem w_match {te : TE} {tc : TC} (k : te σ H fun v H1 => tc v D σ H1) : tMatch te tc D σ H := k
theorem c_nil {v : V} (k : D.nx σ H) : cNil v D σ H := k
theorem c_skip {r : R2} {w : Str} {g : List (Option Nat)} {t : TS} {tc : TC} {a : Addr} {xs : List V} (h : SqT K H a xs) (hn : xs.length ≠ g.length + 1) (k : tc (.ref a) D σ H) : cWord K r w g t tc (.ref a) D σ H :=
  ⟨a, xs, rfl, h, by rw [if_neg hn]; exact k⟩
theorem c_try {w : Str} {g : List (Option Nat)} {t : TS} {tc : TC} {a : Addr} {x : V} {ys : List V} {d : PyData} {n : Nat} (h : SqT K H a (x :: ys)) (hl : ys.length = g.length) (hd : Dp K H x d) (hf : Fine n d) (hn : n ≤ 63) (hw : PyData.strOk w = true)
    (k1 : isW w d = true → t D (gCaps g ys σ) H) (k2 : isW w d = false → tc (.ref a) D σ H) : cWord K (rEqD K) w g t tc (.ref a) D σ H := by
  refine ⟨a, x :: ys, rfl, h, ?_⟩
  rw [if_pos (by simp [hl])]
  intro x' ys' e
  cases e
  refine ⟨d, .str w, hd, .str w, hf.sh.shaped (by omega), (Sh.str (n := 0) hw).shaped (by omega), isW w d, rfl, ?_⟩
  cases q : isW w d with
  | true => rw [if_pos rfl]; exact k1 q
  | false => rw [if_neg (by decide)]; exact k2 q
/-- an event whose word is known -/
theorem c_yes {w : Str} {g : List (Option Nat)} {t : TS} {tc : TC} {a : Addr} {ys : List V} (h : SqT K H a (.str w :: ys)) (hl : ys.length = g.length) (hw : PyData.strOk w = true) (k : t D (gCaps g ys σ) H) : cWord K (rEqD K) w g t tc (.ref a) D σ H :=
  c_try (n := 0) (d := .str w) h hl (.str w) hw (by omega) hw (fun _ => k) fun q => by
    rw [isW_str] at q
    simp at q
theorem c_not {w u : Str} {g : List (Option Nat)} {t : TS} {tc : TC} {a : Addr} {ys : List V} (h : SqT K H a (.str u :: ys)) (ho : PyData.strOk u = true) (hw : PyData.strOk w = true) (ne : ¬ u = w) (k : tc (.ref a) D σ H) : cWord K (rEqD K) w g t tc (.ref a) D σ H := by
  by_cases hl : ys.length = g.length
  · exact c_try (n := 0) (d := .str u) h hl (.str u) ho (by omega) hw (fun q => by
      rw [isW_str] at q
      exact (ne (of_decide_eq_true q)).elim) fun _ => k
  · exact c_skip h (by simp [hl]) k
end
theorem w_ixS {K : PySem.W.Frag} {H : Hp} {Q : VK} {v : V} {p : Addr} {xs : List V} {i : Int} (h : SqT K H p xs) (hx : atI xs i = some v) (k : Q v H) : rIxT K (.ref p) (.int i) H Q := ⟨p, xs, i, v, rfl, rfl, h, hx, k⟩
theorem WK.w_chain {r r' : R2} {ta tb tc : TE} {σ : L2.St} {H : Hp} {Q : VK} (k : ta σ H fun x H1 => tb σ H1 fun y H2 => r x y H2 fun z H3 => ∃ k, z = .bl k ∧ (if k = true then tc σ H3 fun w' H4 => r' y w' H4 Q else Q (.bl false) H3)) : tChain r r' ta tb tc σ H Q := k
/-! ### an own class -/
structure DfM (K : PySem.W.Frag) (C : Addr) (m q : Str) (st : Stmt) (ps : List Str) : Prop where
  ex : ∃ f fd, Fun K m q st f fd ∧ Meth K C m f ∧ Binds K fd ps []
structure DfI (K : PySem.W.Frag) (mg : Str → Option Value) (C : Addr) (x q : Str) (st : Stmt) (ps : List Str) : Prop where
  ex : ∃ f fd, Fun K "__init__" q st f fd ∧ Mk K C f ∧ mg x = some (.ref C) ∧ Binds K fd ps []
structure HasM (P : Program) (w : World) (K : PySem.W.Frag) (mg : Str → Option Value) (base : Heap) (C : Addr) (k : Nat) (m : Str) (ps : List Str) (sp : Sp) : Prop where
  ex : ∃ f fd, FnOk P w K mg base CX0 k f fd ps sp ∧ Meth K C m f ∧ Binds K fd ps []
structure HasI (P : Program) (w : World) (K : PySem.W.Frag) (mg : Str → Option Value) (base : Heap) (C : Addr) (k : Nat) (x : Str) (ps : List Str) (sp : Sp) : Prop where
  ex : ∃ f fd, FnOk P w K mg base CX0 k f fd ps sp ∧ Mk K C f ∧ mg x = some (.ref C) ∧ Binds K fd ps []
section
variable {P : Program} {w : World} {K : PySem.W.Frag} {mg : Str → Option Value} {base : Heap} {C : Addr}
theorem HasM.mk' {k : Nat} {m q : Str} {st : Stmt} {ps : List Str} {sp : Sp} (D : DfM K C m q st ps) (h : ∀ f fd, Fun K m q st f fd → FnOk P w K mg base CX0 k f fd ps sp) : HasM P w K mg base C k m ps sp := by
  obtain ⟨f, fd, F, r⟩ := D.ex
  exact ⟨f, fd, h f fd F, r⟩
theorem HasI.mk' {k : Nat} {x q : Str} {st : Stmt} {ps : List Str} {sp : Sp} (D : DfI K mg C x q st ps) (h : ∀ f fd, Fun K "__init__" q st f fd → FnOk P w K mg base CX0 k f fd ps sp) : HasI P w K mg base C k x ps sp := by
  obtain ⟨f, fd, F, r⟩ := D.ex
  exact ⟨f, fd, h f fd F, r⟩
end
theorem pe_fldK {X : Cx} {K : PySem.W.Frag} {e : Expr} {f : Str} {pos : Pos} {ta : TE} (he : PE X e ta) (hb : attributeBase e f X.env (eval e X.env) = eval e X.env) (hK : X.K = K := by rfl) : PE X (.Attribute e f pos) (tFld K ta f) := by subst hK; exact pe_fld he hb
section
variable {X : Cx} {C : Addr} {k : Nat} {x m : Str} {ps : List Str} {sp : Sp} {o e : Expr} {es : List Expr} {apos pos p : Pos} {ta : TE} {t : TA}
theorem pe_methH {pl : Sem Bool} (he : PE X o ta) (D : HasM X.prog X.w X.K X.mg X.base C k m ps sp) (c : Cls X.K C) (hr : Room k X.A) (ha : PA X (e :: es) t)
    (hst : starEach (e :: es) X.env = (false, eval e X.env) :: starEach es X.env := by rfl) (hpl : (backTo pos (starEach es X.env)).any (·.1) = false := by rfl)
    (ht : eval (.Call (.Attribute o m apos) (e :: es) [] pos) X.env = (do
      let ov ← eval o X.env
      standAt apos.atName
      let (f, first) ← holding [ov] (getMethod ov m pl)
      callWith pos f first (backTo pos (starEach (e :: es) X.env)) (backToKw pos (keywordEach [] X.env))) := by rfl) :
    PE X (.Call (.Attribute o m apos) (e :: es) [] pos) (tMeth C m sp [] E0 ta t) := by
  obtain ⟨f, fd, F, me, b⟩ := D.ex
  exact pe_meth he c me F hr b .nil pass0 ha hst hpl ht
theorem pe_meth0H {pl : Sem Bool} (he : PE X o ta) (D : HasM X.prog X.w X.K X.mg X.base C k m ps sp) (c : Cls X.K C) (hr : Room k X.A)
    (ht : eval (.Call (.Attribute o m apos) [] [] pos) X.env = (do
      let ov ← eval o X.env
      standAt apos.atName
      let (f, first) ← holding [ov] (getMethod ov m pl)
      callWith pos f first (backTo pos (starEach [] X.env)) (backToKw pos (keywordEach [] X.env))) := by rfl) :
    PE X (.Call (.Attribute o m apos) [] [] pos) (tMeth C m sp [] E0 ta tNil) := by
  obtain ⟨f, fd, F, me, b⟩ := D.ex
  exact pe_meth0 he c me F hr b .nil pass0 ht
theorem pe_makeH (D : HasI X.prog X.w X.K X.mg X.base C k x ps sp) (hr : Room (k + 1) X.A) (hg : Gl X x) (hdb : (x == ("__debug__" : Str)) = false := by decide) : PE X (.Call (.Name x p) [] [] pos) (tMake C sp [] E0 tNil) := by
  obtain ⟨f, fd, F, M, m, b⟩ := D.ex
  exact pe_make0 M F hr hg m b .nil pass0 hdb
end
/-! ### data that the law draws: not deep, not long -/
def Fb : Nat → PyData → Prop
  | _, .none => True
  | _, .bool _ => True
  | _, .int _ => True
  | _, .str x => PyData.strOk x = true ∧ x.length ≤ 1000
  | n + 1, .list ds => ds.length ≤ 1000 ∧ ∀ d ∈ ds, Fb n d
  | n + 1, .tuple ds => ds.length ≤ 1000 ∧ ∀ d ∈ ds, Fb n d
  | _, _ => False
theorem Fb.fine : ∀ {n : Nat} {d : PyData}, Fb n d → Fine n d
  | 0, .none, _ => trivial
  | 0, .bool b, _ => trivial
  | 0, .int i, _ => trivial
  | 0, .str x, h => h.1
  | 0, .list _, h => h.elim
  | 0, .tuple _, h => h.elim
  | 0, .dict _, h => h.elim
  | n + 1, .none, _ => trivial
  | n + 1, .bool b, _ => trivial
  | n + 1, .int i, _ => trivial
  | n + 1, .str x, h => h.1
  | n + 1, .list ds, h => ⟨h.1, fun d hd => (h.2 d hd).fine⟩
  | n + 1, .tuple ds, h => ⟨h.1, fun d hd => (h.2 d hd).fine⟩
  | n + 1, .dict _, h => h.elim
theorem Fb.up : ∀ {n : Nat} {d : PyData}, Fb n d → Fb (n + 1) d
  | 0, .none, _ => trivial
  | 0, .bool b, _ => trivial
  | 0, .int i, _ => trivial
  | 0, .str x, h => h
  | 0, .list _, h => h.elim
  | 0, .tuple _, h => h.elim
  | 0, .dict _, h => h.elim
  | n + 1, .none, _ => trivial
  | n + 1, .bool b, _ => trivial
  | n + 1, .int i, _ => trivial
  | n + 1, .str x, h => h
  | n + 1, .list ds, h => ⟨h.1, fun d hd => (h.2 d hd).up⟩
  | n + 1, .tuple ds, h => ⟨h.1, fun d hd => (h.2 d hd).up⟩
  | n + 1, .dict _, h => h.elim
/-- a test of one value of such data -/
def spAsk (K : PySem.W.Frag) (f : PyData → Bool) (n : Nat) : Sp := fun vs H Q _ => ∃ (v : V) (d : PyData), vs = [v] ∧ Dp K H v d ∧ Fb n d ∧ ∀ H', Gr [] H H' → Q (.bl (f d)) H'
end PK

set_option Elab.async false
set_option linter.all false
set_option maxRecDepth 100000
/-! The Log: what it holds, as mathematics, and where it stands. -/
namespace PK
open PySem L2
structure LS where
  hold : Int
  guards : List (Str × Int)
  time : Int
  ents : List (Str × Option Int)
  gone : List Bool
  since : List (Option Int)
  seats : List (Int × Int)
  tabs : List (Int × List (Str × Int))
  copies : List (Int × List (Str × Int))
def optV : Option Int → V
  | none => .non
  | some i => .int i
/-- a dict's row of pairs, a key put -/
def putA {α β : Type} [DecidableEq α] (l : List (α × β)) (a : α) (b : β) : List (α × β) := if (l.any fun p => decide (p.1 = a)) = true then l.map (fun p => if p.1 = a then (p.1, b) else p) else l ++ [(a, b)]
def getA {α β : Type} [DecidableEq α] (l : List (α × β)) (a : α) : Option β := (l.find? fun p => decide (p.1 = a)).map (·.2)
def delA {α β : Type} [DecidableEq α] (l : List (α × β)) (a : α) : List (α × β) := l.filter fun p => decide (p.1 ≠ a)
section
variable {α β : Type} [DecidableEq α]
theorem put_map (k : α → Key) (hk : ∀ x y, k x = k y → x = y) (v : β → V) (l : List (α × β)) (a : α) (b : β) : putK (l.map fun p => (k p.1, v p.2)) (k a) (v b) = (putA l a b).map fun p => (k p.1, v p.2) := by
  have e : ∀ p : α × β, decide (k p.1 = k a) = decide (p.1 = a) := fun p => by
    by_cases h : p.1 = a
    · rw [h]; simp
    · rw [decide_eq_false h, decide_eq_false fun q => h (hk _ _ q)]
  have e2 : ((l.map fun p => (k p.1, v p.2)).any fun kv => decide (kv.1 = k a)) = l.any fun p => decide (p.1 = a) := by
    rw [List.any_map]
    congr 1
    funext p
    exact e p
  unfold putK putA
  rw [e2]
  by_cases h : (l.any fun p => decide (p.1 = a)) = true
  · rw [if_pos h, if_pos h, List.map_map, List.map_map]
    refine List.map_congr_left fun p _ => ?_
    show (if k p.1 = k a then (k p.1, v b) else (k p.1, v p.2)) = _
    by_cases q : p.1 = a
    · simp [q]
    · rw [if_neg fun z => q (hk _ _ z)]
      simp [q]
  · rw [if_neg h, if_neg h, List.map_append]
    rfl
theorem get_map (k : α → Key) (hk : ∀ x y, k x = k y → x = y) (v : β → V) : ∀ (l : List (α × β)) (a : α), valV (l.map fun p => (k p.1, v p.2)) (k a) = (getA l a).map v
  | [], a => rfl
  | p :: l, a => by
    by_cases h : p.1 = a
    · rw [List.map_cons, valV_pos (by rw [h])]
      simp [getA, List.find?_cons, h]
    · rw [List.map_cons, valV_neg (fun q => h (hk _ _ q)), get_map k hk v l a]
      simp [getA, List.find?_cons, h]
theorem del_map (k : α → Key) (hk : ∀ x y, k x = k y → x = y) (v : β → V) (l : List (α × β)) (a : α) : dropK (l.map fun p => (k p.1, v p.2)) (k a) = (delA l a).map fun p => (k p.1, v p.2) := by
  unfold dropK delA
  rw [List.filter_map]
  congr 1
  refine List.filter_congr fun p _ => ?_
  show decide (k p.1 ≠ k a) = _
  by_cases h : p.1 = a
  · simp [h]
  · have h2 : ¬ k p.1 = k a := fun q => h (hk _ _ q)
    simp [h, h2]
theorem putA_len (l : List (α × β)) (a : α) (b : β) : (putA l a b).length ≤ l.length + 1 := by
  unfold putA
  split
  · rw [List.length_map]; omega
  · rw [List.length_append, List.length_singleton]
    omega
end
theorem inl_inj : ∀ x y : Int, (Sum.inl x : Key) = Sum.inl y → x = y := fun _ _ h => Sum.inl.inj h
theorem inr_inj : ∀ x y : Str, (Sum.inr x : Key) = Sum.inr y → x = y := fun _ _ h => Sum.inr.inj h
def seatsV (l : List (Int × Int)) : List (Key × V) := l.map fun p => (Sum.inl p.1, V.int p.2)
def tabV (l : List (Str × Int)) : List (Key × V) := l.map fun p => (Sum.inr p.1, V.int p.2)
def tabsV (l : List (Int × Addr)) : List (Key × V) := l.map fun p => (Sum.inl p.1, V.ref p.2)
/-- a tuple of which the object is known: it has no dict -/
def FzT (H : Hp) (b : Addr) (xs : List V) : Prop := ∃ ob : Obj, H b = some (.frz ob (.tup xs)) ∧ ob.cls = .type "tuple" ∧ ob.dict = none
theorem FzT.gr {H H' : Hp} {M : List Addr} {b : Addr} {xs : List V} (h : FzT H b xs) (g : Gr M H H') : FzT H' b xs := by
  obtain ⟨ob, h1, h2, h3⟩ := h
  exact ⟨ob, g.fix _ _ _ h1, h2, h3⟩
/-- what a copy is: its place, its pairs -/
def IsCp (H : Hp) (v : V) (c : Int × List (Str × Int)) : Prop := ∃ a b xs, v = .ref a ∧ H a = some (.tup [.int c.1, .ref b]) ∧ FzT H b xs ∧ Tps H xs (c.2.map fun q => [.str q.1, .int q.2])
theorem IsCp.gr {H H' : Hp} {M : List Addr} {v : V} {c : Int × List (Str × Int)} (h : IsCp H v c) (g : Gr M H H') : IsCp H' v c := by
  obtain ⟨a, b, xs, e, h1, h2, h3⟩ := h
  exact ⟨a, b, xs, e, g.tup _ _ h1, h2.gr g, h3.gr g⟩
abbrev Cps (H : Hp) : List V → List (Int × List (Str × Int)) → Prop := Paired (IsCp H)
theorem Cps.gr {H H' : Hp} {M : List Addr} {xs : List V} {cs : List (Int × List (Str × Int))} (h : Cps H xs cs) (g : Gr M H H') : Cps H' xs cs := Paired.mono (fun _ _ q => q.gr g) h
/-- where its parts stand -/
structure LA where
  gu : Addr
  en : Addr
  go : Addr
  si : Addr
  se : Addr
  ta : Addr
  co : Addr
abbrev nH : Str := "_hold"
abbrev nG : Str := "_guards"
abbrev nT : Str := "_time"
abbrev nE : Str := "_entries"
abbrev nO : Str := "_gone"
abbrev nI : Str := "_since"
abbrev nS : Str := "_seats"
abbrev nA : Str := "_tables"
abbrev nC : Str := "_copies"
abbrev lF (h : Int) (A : LA) (t : Int) : List (Str × V) := [(nH, .int h), (nG, .ref A.gu), (nT, .int t), (nE, .ref A.en), (nO, .ref A.go), (nI, .ref A.si), (nS, .ref A.se), (nA, .ref A.ta), (nC, .ref A.co)]
structure LogC (K : PySem.W.Frag) (C : Addr) : Prop where
  cl : Cls K C
  h : NoAttr K C nH
  g : NoAttr K C nG
  t : NoAttr K C nT
  e : NoAttr K C nE
  o : NoAttr K C nO
  i : NoAttr K C nI
  s : NoAttr K C nS
  a : NoAttr K C nA
  c : NoAttr K C nC
theorem look_ne {x y : Str} {v : V} {l : List (Str × V)} (h : (x == y) = false) : ((y, v) :: l).lookup x = l.lookup x := by simp [List.lookup, h]
theorem look_eq {x : Str} {v : V} {l : List (Str × V)} : ((x, v) :: l).lookup x = some v := by simp [List.lookup]
theorem look_nil {x : Str} : ([] : List (Str × V)).lookup x = none := rfl
theorem put_ne {x y : Str} {v u : V} {l : List (Str × V)} (h : ¬ y = x) : putF x u ((y, v) :: l) = (y, v) :: putF x u l := by
  simp only [putF]; rw [if_neg h]
theorem put_eq {x : Str} {v u : V} {l : List (Str × V)} : putF x u ((x, v) :: l) = (x, u) :: l := by
  simp only [putF]; rw [if_pos trivial]
section
variable {h t u : Int} {A : LA}
theorem lF_nH : (lF h A t).lookup nH = some (.int h) := look_eq
theorem lF_nG : (lF h A t).lookup nG = some (.ref A.gu) := (look_ne (by decide +kernel)).trans (look_eq)
theorem lF_nT : (lF h A t).lookup nT = some (.int t) := (look_ne (by decide +kernel)).trans ((look_ne (by decide +kernel)).trans (look_eq))
theorem lF_nE : (lF h A t).lookup nE = some (.ref A.en) := (look_ne (by decide +kernel)).trans ((look_ne (by decide +kernel)).trans ((look_ne (by decide +kernel)).trans (look_eq)))
theorem lF_nO : (lF h A t).lookup nO = some (.ref A.go) := (look_ne (by decide +kernel)).trans ((look_ne (by decide +kernel)).trans ((look_ne (by decide +kernel)).trans ((look_ne (by decide +kernel)).trans (look_eq))))
theorem lF_nI : (lF h A t).lookup nI = some (.ref A.si) := (look_ne (by decide +kernel)).trans ((look_ne (by decide +kernel)).trans ((look_ne (by decide +kernel)).trans ((look_ne (by decide +kernel)).trans ((look_ne (by decide +kernel)).trans (look_eq)))))
theorem lF_nS : (lF h A t).lookup nS = some (.ref A.se) := (look_ne (by decide +kernel)).trans ((look_ne (by decide +kernel)).trans ((look_ne (by decide +kernel)).trans ((look_ne (by decide +kernel)).trans ((look_ne (by decide +kernel)).trans ((look_ne (by decide +kernel)).trans (look_eq))))))
theorem lF_nA : (lF h A t).lookup nA = some (.ref A.ta) := (look_ne (by decide +kernel)).trans ((look_ne (by decide +kernel)).trans ((look_ne (by decide +kernel)).trans ((look_ne (by decide +kernel)).trans ((look_ne (by decide +kernel)).trans ((look_ne (by decide +kernel)).trans ((look_ne (by decide +kernel)).trans (look_eq)))))))
theorem lF_nC : (lF h A t).lookup nC = some (.ref A.co) := (look_ne (by decide +kernel)).trans ((look_ne (by decide +kernel)).trans ((look_ne (by decide +kernel)).trans ((look_ne (by decide +kernel)).trans ((look_ne (by decide +kernel)).trans ((look_ne (by decide +kernel)).trans ((look_ne (by decide +kernel)).trans ((look_ne (by decide +kernel)).trans (look_eq))))))))
theorem lF_put : putF nT (.int u) (lF h A t) = lF h A u := by
  rw [put_ne (by decide +kernel), put_ne (by decide +kernel), put_eq]
theorem lF_none {x : Str} (h0 : (x == nH) = false := by decide +kernel) (h1 : (x == nG) = false := by decide +kernel) (h2 : (x == nT) = false := by decide +kernel) (h3 : (x == nE) = false := by decide +kernel) (h4 : (x == nO) = false := by decide +kernel) (h5 : (x == nI) = false := by decide +kernel) (h6 : (x == nS) = false := by decide +kernel) (h7 : (x == nA) = false := by decide +kernel) (h8 : (x == nC) = false := by decide +kernel) : (lF h A t).lookup x = none := by
  rw [look_ne h0, look_ne h1, look_ne h2, look_ne h3, look_ne h4, look_ne h5, look_ne h6, look_ne h7, look_ne h8, look_nil]
end
/-! where a Log stands -/
def own (p : Addr) (A : LA) (ad : List Addr) : List Addr := p :: A.en :: A.go :: A.si :: A.se :: A.ta :: A.co :: ad
structure LogAt (C : Addr) (H : Hp) (p : Addr) (A : LA) (L : List (Int × Addr)) (s : LS) : Prop where
  ob : ∃ dx, H p = some (.ins C dx (lF s.hold A s.time))
  gu : ∃ gs, H A.gu = some (.tup gs) ∧ Tps H gs (s.guards.map fun g => [.str g.1, .int g.2])
  en : ∃ es, H A.en = some (.lst es) ∧ Tps H es (s.ents.map fun e => [.str e.1, optV e.2])
  go : H A.go = some (.lst (s.gone.map V.bl))
  si : H A.si = some (.lst (s.since.map optV))
  se : H A.se = some (.dK (seatsV s.seats))
  ta : H A.ta = some (.dK (tabsV L))
  td : Paired (fun q t => q.1 = t.1 ∧ H q.2 = some (.dK (tabV t.2))) L s.tabs
  co : ∃ cs, H A.co = some (.lst cs) ∧ Cps H cs s.copies
  kn : (L.map (·.1)).Nodup
  nd : (own p A (L.map (·.2))).Nodup
/-- what holds of every Log that was begun and gone on with by events that come -/
structure LS.Ok (s : LS) (n : Nat) : Prop where
  eg : s.gone.length = s.ents.length
  es : s.since.length = s.ents.length
  en : s.ents.length ≤ n
  s0 : ∀ p ∈ s.seats, 0 ≤ p.2 ∧ p.2 ≤ s.ents.length
  sl : s.seats.length ≤ n
  tl : s.tabs.length ≤ n
  c0 : ∀ c ∈ s.copies, 0 ≤ c.1 ∧ c.1 ≤ s.ents.length
  cl : s.copies.length ≤ n
  g0 : ∀ g ∈ s.guards, 0 ≤ g.2
  tw : ∀ t ∈ s.tabs, t.2.length ≤ n * n
  cw : ∀ c ∈ s.copies, c.2.length ≤ n * n
theorem pr_on {α β : Type} {F G : α → β → Prop} : ∀ {a : List α} {b : List β}, Paired F a b → (∀ x ∈ a, ∀ y, F x y → G x y) → Paired G a b
  | _, _, .nil, _ => .nil
  | _, _, .cons h t, k => .cons (k _ (by simp) _ h) (pr_on t fun x hx => k x (by simp [hx]))
section
variable {C : Addr} {H H' : Hp} {p : Addr} {A : LA} {L : List (Int × Addr)} {s : LS}
theorem LogAt.keep {M : List Addr} (h : LogAt C H p A L s) (g : Gr M H H') (d : ∀ a ∈ own p A (L.map (·.2)), a ∉ M) : LogAt C H' p A L s := by
  obtain ⟨⟨dx, ob⟩, ⟨gs, g1, g2⟩, ⟨es, e1, e2⟩, go, si, se, ta, td, ⟨cs, c1, c2⟩, kn, nd⟩ := h
  refine ⟨⟨dx, g.keep _ _ (d _ (by simp [own])) ob⟩, ⟨gs, g.tup _ _ g1, g2.gr g⟩, ⟨es, g.keep _ _ (d _ (by simp [own])) e1, e2.gr g⟩, g.keep _ _ (d _ (by simp [own])) go, g.keep _ _ (d _ (by simp [own])) si, g.keep _ _ (d _ (by simp [own])) se,
    g.keep _ _ (d _ (by simp [own])) ta, pr_on td fun q hq t ht => ⟨ht.1, g.keep _ _ (d _ (List.mem_append_right [p, A.en, A.go, A.si, A.se, A.ta, A.co] (List.mem_map.mpr ⟨q, hq, rfl⟩))) ht.2⟩, ⟨cs, g.keep _ _ (d _ (by simp [own])) c1, c2.gr g⟩, kn, nd⟩
theorem LogAt.k0 (h : LogAt C H p A L s) (g : Gr [] H H') : LogAt C H' p A L s := h.keep g (by simp)
theorem LogAt.setTime (h : LogAt C H p A L s) (u : Int) {dx : Addr} (hp : H p = some (.ins C dx (lF s.hold A s.time))) :
    LogAt C (upd H p (.ins C dx (lF s.hold A u))) p A L { s with time := u } ∧ Gr (own p A (L.map (·.2))) H (upd H p (.ins C dx (lF s.hold A u))) := by
  have nd := h.nd
  simp only [own, List.nodup_cons, List.mem_cons, not_or] at nd
  obtain ⟨⟨p1, p2, p3, p4, p5, p6, p7⟩, ⟨e1, e2, e3, e4, e5, e6⟩, ⟨g1, g2, g3, g4, g5⟩, ⟨s1, s2, s3, s4⟩, ⟨b1, b2, b3⟩, ⟨t1, t2⟩, c1, an⟩ := nd
  obtain ⟨⟨dx', ob⟩, ⟨gs, gu1, gu2⟩, ⟨es, en1, en2⟩, go, si, se, ta, td, ⟨cs, co1, co2⟩, knn, ndd⟩ := h
  have g : Gr (own p A (L.map (·.2))) H (upd H p (.ins C dx (lF s.hold A u))) := Gr.mut ob (fun _ z => by cases z) (by simp [own])
  exact ⟨⟨⟨dx, upd_same⟩, ⟨gs, g.tup _ _ gu1, gu2.gr g⟩, ⟨es, by rw [upd_ne (Ne.symm p1)]; exact en1, en2.gr g⟩, by rw [upd_ne (Ne.symm p2)]; exact go, by rw [upd_ne (Ne.symm p3)]; exact si, by rw [upd_ne (Ne.symm p4)]; exact se, by rw [upd_ne (Ne.symm p5)]; exact ta, pr_on td fun q hq t ht => ⟨ht.1, by rw [upd_ne (fun z => p7 (by rw [← z]; exact List.mem_map.mpr ⟨q, hq, rfl⟩))]; exact ht.2⟩, ⟨cs, by rw [upd_ne (Ne.symm p6)]; exact co1, co2.gr g⟩, knn, ndd⟩, g⟩
theorem LogAt.setGo (h : LogAt C H p A L s) (g' : List Bool) :
    LogAt C (upd H A.go (.lst (g'.map V.bl))) p A L { s with gone := g' } ∧ Gr (own p A (L.map (·.2))) H (upd H A.go (.lst (g'.map V.bl))) := by
  have nd := h.nd
  simp only [own, List.nodup_cons, List.mem_cons, not_or] at nd
  obtain ⟨⟨p1, p2, p3, p4, p5, p6, p7⟩, ⟨e1, e2, e3, e4, e5, e6⟩, ⟨g1, g2, g3, g4, g5⟩, ⟨s1, s2, s3, s4⟩, ⟨b1, b2, b3⟩, ⟨t1, t2⟩, c1, an⟩ := nd
  obtain ⟨⟨dx', ob⟩, ⟨gs, gu1, gu2⟩, ⟨es, en1, en2⟩, go, si, se, ta, td, ⟨cs, co1, co2⟩, knn, ndd⟩ := h
  have g : Gr (own p A (L.map (·.2))) H (upd H A.go (.lst (g'.map V.bl))) := Gr.mut go (fun _ z => by cases z) (by simp [own])
  exact ⟨⟨⟨dx', by rw [upd_ne p2]; exact ob⟩, ⟨gs, g.tup _ _ gu1, gu2.gr g⟩, ⟨es, by rw [upd_ne e1]; exact en1, en2.gr g⟩, upd_same, by rw [upd_ne (Ne.symm g1)]; exact si, by rw [upd_ne (Ne.symm g2)]; exact se, by rw [upd_ne (Ne.symm g3)]; exact ta, pr_on td fun q hq t ht => ⟨ht.1, by rw [upd_ne (fun z => g5 (by rw [← z]; exact List.mem_map.mpr ⟨q, hq, rfl⟩))]; exact ht.2⟩, ⟨cs, by rw [upd_ne (Ne.symm g4)]; exact co1, co2.gr g⟩, knn, ndd⟩, g⟩
theorem LogAt.setSi (h : LogAt C H p A L s) (g' : List (Option Int)) :
    LogAt C (upd H A.si (.lst (g'.map optV))) p A L { s with since := g' } ∧ Gr (own p A (L.map (·.2))) H (upd H A.si (.lst (g'.map optV))) := by
  have nd := h.nd
  simp only [own, List.nodup_cons, List.mem_cons, not_or] at nd
  obtain ⟨⟨p1, p2, p3, p4, p5, p6, p7⟩, ⟨e1, e2, e3, e4, e5, e6⟩, ⟨g1, g2, g3, g4, g5⟩, ⟨s1, s2, s3, s4⟩, ⟨b1, b2, b3⟩, ⟨t1, t2⟩, c1, an⟩ := nd
  obtain ⟨⟨dx', ob⟩, ⟨gs, gu1, gu2⟩, ⟨es, en1, en2⟩, go, si, se, ta, td, ⟨cs, co1, co2⟩, knn, ndd⟩ := h
  have g : Gr (own p A (L.map (·.2))) H (upd H A.si (.lst (g'.map optV))) := Gr.mut si (fun _ z => by cases z) (by simp [own])
  exact ⟨⟨⟨dx', by rw [upd_ne p3]; exact ob⟩, ⟨gs, g.tup _ _ gu1, gu2.gr g⟩, ⟨es, by rw [upd_ne e2]; exact en1, en2.gr g⟩, by rw [upd_ne g1]; exact go, upd_same, by rw [upd_ne (Ne.symm s1)]; exact se, by rw [upd_ne (Ne.symm s2)]; exact ta, pr_on td fun q hq t ht => ⟨ht.1, by rw [upd_ne (fun z => s4 (by rw [← z]; exact List.mem_map.mpr ⟨q, hq, rfl⟩))]; exact ht.2⟩, ⟨cs, by rw [upd_ne (Ne.symm s3)]; exact co1, co2.gr g⟩, knn, ndd⟩, g⟩
theorem LogAt.setSe (h : LogAt C H p A L s) (l : List (Int × Int)) :
    LogAt C (upd H A.se (.dK (seatsV l))) p A L { s with seats := l } ∧ Gr (own p A (L.map (·.2))) H (upd H A.se (.dK (seatsV l))) := by
  have nd := h.nd
  simp only [own, List.nodup_cons, List.mem_cons, not_or] at nd
  obtain ⟨⟨p1, p2, p3, p4, p5, p6, p7⟩, ⟨e1, e2, e3, e4, e5, e6⟩, ⟨g1, g2, g3, g4, g5⟩, ⟨s1, s2, s3, s4⟩, ⟨b1, b2, b3⟩, ⟨t1, t2⟩, c1, an⟩ := nd
  obtain ⟨⟨dx', ob⟩, ⟨gs, gu1, gu2⟩, ⟨es, en1, en2⟩, go, si, se, ta, td, ⟨cs, co1, co2⟩, knn, ndd⟩ := h
  have g : Gr (own p A (L.map (·.2))) H (upd H A.se (.dK (seatsV l))) := Gr.mut se (fun _ z => by cases z) (by simp [own])
  exact ⟨⟨⟨dx', by rw [upd_ne p4]; exact ob⟩, ⟨gs, g.tup _ _ gu1, gu2.gr g⟩, ⟨es, by rw [upd_ne e3]; exact en1, en2.gr g⟩, by rw [upd_ne g2]; exact go, by rw [upd_ne s1]; exact si, upd_same, by rw [upd_ne (Ne.symm b1)]; exact ta, pr_on td fun q hq t ht => ⟨ht.1, by rw [upd_ne (fun z => b3 (by rw [← z]; exact List.mem_map.mpr ⟨q, hq, rfl⟩))]; exact ht.2⟩, ⟨cs, by rw [upd_ne (Ne.symm b2)]; exact co1, co2.gr g⟩, knn, ndd⟩, g⟩
theorem LogAt.addEn (h : LogAt C H p A L s) {es0 : List V} (hes : H A.en = some (.lst es0)) {v : V} {k : Str} {o : Option Int} (hv : IsTp H v [.str k, optV o]) :
    LogAt C (upd H A.en (.lst (es0 ++ [v]))) p A L { s with ents := s.ents ++ [(k, o)] } ∧ Gr (own p A (L.map (·.2))) H (upd H A.en (.lst (es0 ++ [v]))) := by
  have nd := h.nd
  simp only [own, List.nodup_cons, List.mem_cons, not_or] at nd
  obtain ⟨⟨p1, p2, p3, p4, p5, p6, p7⟩, ⟨e1, e2, e3, e4, e5, e6⟩, ⟨g1, g2, g3, g4, g5⟩, ⟨s1, s2, s3, s4⟩, ⟨b1, b2, b3⟩, ⟨t1, t2⟩, c1, an⟩ := nd
  obtain ⟨⟨dx', ob⟩, ⟨gs, gu1, gu2⟩, ⟨es, en1, en2⟩, go, si, se, ta, td, ⟨cs, co1, co2⟩, knn, ndd⟩ := h
  rw [hes] at en1
  cases en1
  have en1 := hes
  have g : Gr (own p A (L.map (·.2))) H (upd H A.en (.lst (es0 ++ [v]))) := Gr.mut en1 (fun _ z => by cases z) (by simp [own])
  exact ⟨⟨⟨dx', by rw [upd_ne p1]; exact ob⟩, ⟨gs, g.tup _ _ gu1, gu2.gr g⟩, ⟨_, upd_same, by rw [List.map_append]; exact pr_append (en2.gr g) (.cons (hv.gr g) .nil)⟩, by rw [upd_ne (Ne.symm e1)]; exact go, by rw [upd_ne (Ne.symm e2)]; exact si, by rw [upd_ne (Ne.symm e3)]; exact se, by rw [upd_ne (Ne.symm e4)]; exact ta, pr_on td fun q hq t ht => ⟨ht.1, by rw [upd_ne (fun z => e6 (by rw [← z]; exact List.mem_map.mpr ⟨q, hq, rfl⟩))]; exact ht.2⟩, ⟨cs, by rw [upd_ne (Ne.symm e5)]; exact co1, co2.gr g⟩, knn, ndd⟩, g⟩
theorem LogAt.addCo (h : LogAt C H p A L s) {cs0 : List V} (hcs : H A.co = some (.lst cs0)) {v : V} {c : Int × List (Str × Int)} (hv : IsCp H v c) :
    LogAt C (upd H A.co (.lst (cs0 ++ [v]))) p A L { s with copies := s.copies ++ [c] } ∧ Gr (own p A (L.map (·.2))) H (upd H A.co (.lst (cs0 ++ [v]))) := by
  have nd := h.nd
  simp only [own, List.nodup_cons, List.mem_cons, not_or] at nd
  obtain ⟨⟨p1, p2, p3, p4, p5, p6, p7⟩, ⟨e1, e2, e3, e4, e5, e6⟩, ⟨g1, g2, g3, g4, g5⟩, ⟨s1, s2, s3, s4⟩, ⟨b1, b2, b3⟩, ⟨t1, t2⟩, c1, an⟩ := nd
  obtain ⟨⟨dx', ob⟩, ⟨gs, gu1, gu2⟩, ⟨es, en1, en2⟩, go, si, se, ta, td, ⟨cs, co1, co2⟩, knn, ndd⟩ := h
  rw [hcs] at co1
  cases co1
  have co1 := hcs
  have g : Gr (own p A (L.map (·.2))) H (upd H A.co (.lst (cs0 ++ [v]))) := Gr.mut co1 (fun _ z => by cases z) (by simp [own])
  exact ⟨⟨⟨dx', by rw [upd_ne p6]; exact ob⟩, ⟨gs, g.tup _ _ gu1, gu2.gr g⟩, ⟨es, by rw [upd_ne e5]; exact en1, en2.gr g⟩, by rw [upd_ne g4]; exact go, by rw [upd_ne s3]; exact si, by rw [upd_ne b2]; exact se, by rw [upd_ne t1]; exact ta, pr_on td fun q hq t ht => ⟨ht.1, by rw [upd_ne (fun z => c1 (by rw [← z]; exact List.mem_map.mpr ⟨q, hq, rfl⟩))]; exact ht.2⟩, ⟨_, upd_same, pr_append (co2.gr g) (.cons (hv.gr g) .nil)⟩, knn, ndd⟩, g⟩
theorem put_nd {r : Int} {d : Addr} : ∀ {L : List (Int × Addr)}, (L.map (·.1)).Nodup → (L.map (·.2)).Nodup → d ∉ L.map (·.2) → ((L.map fun p => if p.1 = r then (p.1, d) else p).map (·.2)).Nodup ∧ ∀ x ∈ (L.map fun p => if p.1 = r then (p.1, d) else p).map (·.2), (x = d ∧ r ∈ L.map (·.1)) ∨ x ∈ L.map (·.2)
  | [], _, _, _ => ⟨.nil, by simp⟩
  | q :: L, h1, h2, h3 => by
    rw [List.map_cons, List.nodup_cons] at h1 h2
    rw [List.map_cons, List.mem_cons, not_or] at h3
    obtain ⟨i1, i2⟩ := put_nd (r := r) h1.2 h2.2 h3.2
    by_cases e : q.1 = r
    · have e2 : (L.map fun p => if p.1 = r then (p.1, d) else p) = L := by
        refine (List.map_congr_left fun x hx => ?_).trans (List.map_id L)
        have : ¬ x.1 = r := fun z => h1.1 (by rw [e, ← z]; exact List.mem_map.mpr ⟨x, hx, rfl⟩)
        simp [this]
      rw [List.map_cons, if_pos e, e2]
      refine ⟨List.nodup_cons.mpr ⟨h3.2, h2.2⟩, fun x hx => ?_⟩
      rcases List.mem_cons.mp hx with z | z
      · exact .inl ⟨z, by simp [e]⟩
      · exact .inr (by simp only [List.map_cons, List.mem_cons]; exact .inr z)
    · rw [List.map_cons, if_neg e, List.map_cons]
      refine ⟨List.nodup_cons.mpr ⟨fun hm => ?_, i1⟩, fun x hx => ?_⟩
      · rcases i2 _ hm with ⟨z, _⟩ | z
        · exact h3.1 z.symm
        · exact h2.1 z
      · rcases List.mem_cons.mp hx with z | z
        · exact .inr (by simp [z])
        · rcases i2 _ z with ⟨z, k⟩ | z
          · exact .inl ⟨z, by simp only [List.map_cons, List.mem_cons]; exact .inr k⟩
          · exact .inr (by simp only [List.map_cons, List.mem_cons]; exact .inr z)
theorem put_keys {α β : Type} [DecidableEq α] (l : List (α × β)) (a : α) (b : β) (h : (l.map (·.1)).Nodup) : ((putA l a b).map (·.1)).Nodup := by
  unfold putA
  split
  · rw [List.map_map, show ((fun x : α × β => x.1) ∘ fun p => if p.1 = a then (p.1, b) else p) = fun p => p.1 from funext fun p => by simp only [Function.comp]; split <;> rfl]
    exact h
  · rename_i hn
    rw [List.map_append]
    refine List.nodup_append.mpr ⟨h, by simp, fun x hx y hy => ?_⟩
    simp only [List.map_cons, List.map_nil, List.mem_singleton] at hy
    subst hy
    intro e
    subst e
    obtain ⟨q, hq, e⟩ := List.mem_map.mp hx
    exact hn (List.any_eq_true.mpr ⟨q, hq, by simp [e]⟩)
theorem pr_any {G : Int × Addr → Int × List (Str × Int) → Prop} (hk : ∀ q t, G q t → q.1 = t.1) (r : Int) : ∀ {L : List (Int × Addr)} {T : List (Int × List (Str × Int))}, Paired G L T → (L.any fun p => decide (p.1 = r)) = T.any fun p => decide (p.1 = r)
  | _, _, .nil => rfl
  | _, _, .cons h t => by rw [List.any_cons, List.any_cons, hk _ _ h, pr_any hk r t]
theorem pr_map {α β α' β' : Type} {G : α → β → Prop} {G' : α' → β' → Prop} {f : α → α'} {g : β → β'} : ∀ {L : List α} {T : List β}, Paired G L T → (∀ q ∈ L, ∀ t, G q t → G' (f q) (g t)) → Paired G' (L.map f) (T.map g)
  | _, _, .nil, _ => .nil
  | _, _, .cons h t, k => .cons (k _ (by simp) _ h) (pr_map t fun q hq => k q (by simp [hq]))
theorem pr_put {G G' : Int × Addr → Int × List (Str × Int) → Prop} (hk : ∀ q t, G q t → q.1 = t.1) {r : Int} {d : Addr} {x : List (Str × Int)} {L : List (Int × Addr)} {T : List (Int × List (Str × Int))} (h : Paired G L T) (hn : G' (r, d) (r, x)) (hG : ∀ q ∈ L, ∀ t, G q t → ¬ q.1 = r → G' q t) :
    Paired G' (putA L r d) (putA T r x) := by
  unfold putA
  rw [pr_any hk r h]
  split
  · refine pr_map h fun q hq t ht => ?_
    have e := hk _ _ ht
    by_cases z : q.1 = r
    · rw [if_pos z, if_pos (e ▸ z), ← e, z]
      exact hn
    · rw [if_neg z, if_neg (e ▸ z)]
      exact hG q hq t ht z
  · rename_i no
    rw [← pr_any hk r h] at no
    refine pr_append (pr_on h fun q hq t ht => hG q hq t ht fun z => no (List.any_eq_true.mpr ⟨q, hq, decide_eq_true z⟩)) (.cons hn .nil)
/-- a bare table for a reader -/
theorem LogAt.newTab (h : LogAt C H p A L s) (r : Int) {d : Addr} {tb : List (Str × Int)} (hd : H d = some (.dK (tabV tb))) (nd' : d ∉ own p A (L.map (·.2))) :
    LogAt C (upd H A.ta (.dK (tabsV (putA L r d)))) p A (putA L r d) { s with tabs := putA s.tabs r tb } ∧ Gr (own p A (L.map (·.2))) H (upd H A.ta (.dK (tabsV (putA L r d)))) ∧ ∀ x ∈ own p A ((putA L r d).map (·.2)), x = d ∨ x ∈ own p A (L.map (·.2)) := by
  have nd := h.nd
  simp only [own, List.nodup_cons, List.mem_cons, not_or] at nd nd'
  obtain ⟨⟨p1, p2, p3, p4, p5, p6, p7⟩, ⟨e1, e2, e3, e4, e5, e6⟩, ⟨g1, g2, g3, g4, g5⟩, ⟨s1, s2, s3, s4⟩, ⟨b1, b2, b3⟩, ⟨t1, t2⟩, c1, an⟩ := nd
  obtain ⟨d0, d1, d2, d3, d4, d5, d6, d7⟩ := nd'
  obtain ⟨⟨dx', ob⟩, ⟨gs, gu1, gu2⟩, ⟨es, en1, en2⟩, go, si, se, ta, td, ⟨cs, co1, co2⟩, knn, ndd⟩ := h
  have g : Gr (own p A (L.map (·.2))) H (upd H A.ta (.dK (tabsV (putA L r d)))) := Gr.mut ta (fun _ z => by cases z) (by simp [own])
  have sub : ∀ x ∈ (putA L r d).map (·.2), x = d ∨ x ∈ L.map (·.2) := fun x hx => by
    unfold putA at hx
    split at hx
    · rcases (put_nd (r := r) knn an d7).2 x hx with z | z
      · exact .inl z.1
      · exact .inr z
    · rw [List.map_append] at hx
      rcases List.mem_append.mp hx with z | z
      · exact .inr z
      · exact .inl (by simpa using z)
  have nds : ((putA L r d).map (·.2)).Nodup := by
    unfold putA
    split
    · exact (put_nd (r := r) knn an d7).1
    · rw [List.map_append]
      exact List.nodup_append.mpr ⟨an, by simp, fun x hx y hy => by
        simp only [List.map_cons, List.map_nil, List.mem_singleton] at hy
        intro e
        exact d7 (by rw [← hy, ← e]; exact hx)⟩
  have off : ∀ {y : Addr}, ¬ d = y → y ∉ L.map (·.2) → y ∉ (putA L r d).map (·.2) := fun h1 h2 hm => (sub _ hm).elim (fun z => h1 z.symm) h2
  refine ⟨⟨⟨dx', by rw [upd_ne p5]; exact ob⟩, ⟨gs, g.tup _ _ gu1, gu2.gr g⟩, ⟨es, by rw [upd_ne e4]; exact en1, en2.gr g⟩, by rw [upd_ne g3]; exact go, by rw [upd_ne s2]; exact si, by rw [upd_ne b1]; exact se, upd_same,
    pr_put (fun _ _ z => z.1) td ⟨rfl, by rw [upd_ne d5]; exact hd⟩ fun q hq t ht _ => ⟨ht.1, by rw [upd_ne (fun z => t2 (by rw [← z]; exact List.mem_map.mpr ⟨q, hq, rfl⟩))]; exact ht.2⟩,
    ⟨cs, by rw [upd_ne (Ne.symm t1)]; exact co1, co2.gr g⟩, put_keys _ _ _ knn, ?_⟩, g, fun x hx => ?_⟩
  · simp only [own, List.nodup_cons, List.mem_cons, not_or]
    exact ⟨⟨p1, p2, p3, p4, p5, p6, off d0 p7⟩, ⟨e1, e2, e3, e4, e5, off d1 e6⟩, ⟨g1, g2, g3, g4, off d2 g5⟩, ⟨s1, s2, s3, off d3 s4⟩, ⟨b1, b2, off d4 b3⟩, ⟨t1, off d5 t2⟩, off d6 c1, nds⟩
  · simp only [own, List.mem_cons] at hx ⊢
    rcases hx with z | z | z | z | z | z | z | z
    · exact .inr (.inl z)
    · exact .inr (.inr (.inl z))
    · exact .inr (.inr (.inr (.inl z)))
    · exact .inr (.inr (.inr (.inr (.inl z))))
    · exact .inr (.inr (.inr (.inr (.inr (.inl z)))))
    · exact .inr (.inr (.inr (.inr (.inr (.inr (.inl z))))))
    · exact .inr (.inr (.inr (.inr (.inr (.inr (.inr (.inl z)))))))
    · rcases sub _ z with z | z
      · exact .inl z
      · exact .inr (.inr (.inr (.inr (.inr (.inr (.inr (.inr z)))))))
theorem same_of {α : Type} {f : Int × Addr → α} : ∀ {l : List (Int × Addr)} {x y : Int × Addr}, (l.map f).Nodup → x ∈ l → y ∈ l → f x = f y → x = y
  | [], _, _, _, h, _, _ => by cases h
  | z :: l, x, y, hk, hx, hy, e => by
    rw [List.map_cons, List.nodup_cons] at hk
    rcases List.mem_cons.mp hx with h1 | h1 <;> rcases List.mem_cons.mp hy with h2 | h2
    · rw [h1, h2]
    · exact (hk.1 (by rw [← h1, e]; exact List.mem_map.mpr ⟨y, h2, rfl⟩)).elim
    · exact (hk.1 (by rw [← h2, ← e]; exact List.mem_map.mpr ⟨x, h1, rfl⟩)).elim
    · exact same_of hk.2 h1 h2 e
theorem put_id {l : List (Int × Addr)} {r : Int} {a : Addr} (hk : (l.map (·.1)).Nodup) (h : (r, a) ∈ l) : putA l r a = l := by
  unfold putA
  rw [if_pos (List.any_eq_true.mpr ⟨_, h, by simp⟩)]
  refine (List.map_congr_left fun x hx => ?_).trans (List.map_id l)
  by_cases e : x.1 = r
  · rw [if_pos e, same_of hk hx h e]
    rfl
  · rw [if_neg e]
    rfl
/-- a reader's table changes where it stands -/
theorem LogAt.setTab (h : LogAt C H p A L s) {r : Int} {a : Addr} (hm : (r, a) ∈ L) (tb : List (Str × Int)) :
    LogAt C (upd H a (.dK (tabV tb))) p A L { s with tabs := putA s.tabs r tb } ∧ Gr (own p A (L.map (·.2))) H (upd H a (.dK (tabV tb))) := by
  have nd := h.nd
  simp only [own, List.nodup_cons, List.mem_cons, not_or] at nd
  obtain ⟨⟨p1, p2, p3, p4, p5, p6, p7⟩, ⟨e1, e2, e3, e4, e5, e6⟩, ⟨g1, g2, g3, g4, g5⟩, ⟨s1, s2, s3, s4⟩, ⟨b1, b2, b3⟩, ⟨t1, t2⟩, c1, an⟩ := nd
  obtain ⟨⟨dx', ob⟩, ⟨gs, gu1, gu2⟩, ⟨es, en1, en2⟩, go, si, se, ta, td, ⟨cs, co1, co2⟩, knn, ndd⟩ := h
  have am : a ∈ L.map (·.2) := List.mem_map.mpr ⟨_, hm, rfl⟩
  have off : ∀ {y : Addr}, y ∉ L.map (·.2) → y ≠ a := fun h e => h (by rw [e]; exact am)
  obtain ⟨tt, _, htt⟩ := mem_of_pr td hm
  have g : Gr (own p A (L.map (·.2))) H (upd H a (.dK (tabV tb))) := Gr.mut htt.2 (fun _ z => by cases z) (List.mem_append_right [p, A.en, A.go, A.si, A.se, A.ta, A.co] am)
  have td2 : Paired (fun (q : Int × Addr) (t : Int × List (Str × Int)) => q.1 = t.1 ∧ upd H a (.dK (tabV tb)) q.2 = some (.dK (tabV t.2))) (putA L r a) (putA s.tabs r tb) :=
    pr_put (fun _ _ z => z.1) td ⟨rfl, upd_same⟩ fun q hq t ht hr => ⟨ht.1, by
      rw [upd_ne]
      · exact ht.2
      · intro e
        exact hr (by rw [same_of an hq hm e])⟩
  rw [put_id knn hm] at td2
  exact ⟨⟨⟨dx', by rw [upd_ne (off p7)]; exact ob⟩, ⟨gs, g.tup _ _ gu1, gu2.gr g⟩, ⟨es, by rw [upd_ne (off e6)]; exact en1, en2.gr g⟩, by rw [upd_ne (off g5)]; exact go, by rw [upd_ne (off s4)]; exact si, by rw [upd_ne (off b3)]; exact se, by rw [upd_ne (off t2)]; exact ta, td2,
    ⟨cs, by rw [upd_ne (off c1)]; exact co1, co2.gr g⟩, knn, ndd⟩, g⟩
end
theorem sq_le {n m : Nat} (l : n ≤ m) : n * n ≤ m * m := Nat.mul_le_mul l l
theorem put_get {α β : Type} [DecidableEq α] {r : α} {b : β} : ∀ {l : List (α × β)}, (l.map (·.1)).Nodup → getA l r = some b → putA l r b = l
  | [], _, h => by cases h
  | p :: l, hk, h => by
    rw [List.map_cons, List.nodup_cons] at hk
    by_cases e : p.1 = r
    · have hb : p.2 = b := by simpa [getA, List.find?_cons, e] using h
      unfold putA
      rw [if_pos (by simp [e]), List.map_cons, if_pos e]
      have e2 : (l.map fun q => if q.1 = r then (q.1, b) else q) = l := by
        refine (List.map_congr_left fun x hx => ?_).trans (List.map_id l)
        have : ¬ x.1 = r := fun z => hk.1 (by rw [e, ← z]; exact List.mem_map.mpr ⟨x, hx, rfl⟩)
        simp [this]
      rw [e2, ← hb]
    · have h2 : getA l r = some b := by simpa [getA, List.find?_cons, e] using h
      have ih := put_get hk.2 h2
      have any : (l.any fun p => decide (p.1 = r)) = true := by
        unfold getA at h2
        cases q : l.find? (fun p => decide (p.1 = r)) with
        | none => rw [q] at h2; cases h2
        | some y =>
          have hy := List.find?_some (p := fun p : α × β => decide (p.1 = r)) q
          exact List.any_eq_true.mpr ⟨y, List.mem_of_find?_eq_some q, hy⟩
      unfold putA at ih ⊢
      rw [if_pos any] at ih
      rw [if_pos (by simp [any]), List.map_cons, if_neg e, ih]
theorem td_get {H : Hp} {r : Int} {tb : List (Str × Int)} : ∀ {L : List (Int × Addr)} {T : List (Int × List (Str × Int))}, Paired (fun q t => q.1 = t.1 ∧ H q.2 = some (.dK (tabV t.2))) L T → getA T r = some tb → ∃ a, getA L r = some a ∧ H a = some (.dK (tabV tb))
  | _, _, .nil, h => by cases h
  | q :: L, t :: T, .cons h k, e => by
    by_cases z : t.1 = r
    · have hb : t.2 = tb := by simpa [getA, List.find?_cons, z] using e
      exact ⟨q.2, by simp [getA, List.find?_cons, h.1, z], by rw [← hb]; exact h.2⟩
    · have e2 : getA T r = some tb := by simpa [getA, List.find?_cons, z] using e
      obtain ⟨a, h1, h2⟩ := td_get k e2
      have z2 : ¬ q.1 = r := by rw [h.1]; exact z
      exact ⟨a, by rw [← h1]; simp [getA, List.find?_cons, z2], h2⟩
theorem td_keys {H : Hp} : ∀ {L : List (Int × Addr)} {T : List (Int × List (Str × Int))}, Paired (fun q t => q.1 = t.1 ∧ H q.2 = some (.dK (tabV t.2))) L T → L.map (·.1) = T.map (·.1)
  | _, _, .nil => rfl
  | _, _, .cons h k => by rw [List.map_cons, List.map_cons, h.1, td_keys k]
theorem map_put_id {α β : Type} [DecidableEq α] {l : List (α × β)} {a : α} (c : β) (h : ¬ (l.any fun p => decide (p.1 = a)) = true) : (l.map fun p => if p.1 = a then (p.1, c) else p) = l := by
  refine (List.map_congr_left fun x hx => ?_).trans (List.map_id l)
  have : ¬ x.1 = a := fun z => h (List.any_eq_true.mpr ⟨x, hx, decide_eq_true z⟩)
  simp [this]
theorem getA_map {α β : Type} [DecidableEq α] {a : α} {b : β} : ∀ {l : List (α × β)}, (l.any fun p => decide (p.1 = a)) = true → getA (l.map fun p => if p.1 = a then (p.1, b) else p) a = some b
  | [], h => by simp at h
  | p :: l, h => by
    by_cases e : p.1 = a
    · simp [getA, List.find?_cons, e]
    · have h2 : (l.any fun p => decide (p.1 = a)) = true := by simpa [e] using h
      have ih := getA_map (b := b) h2
      rw [List.map_cons, if_neg e]
      unfold getA at ih ⊢
      rw [List.find?_cons, show decide (p.1 = a) = false from decide_eq_false e]
      exact ih
theorem getA_put {α β : Type} [DecidableEq α] (l : List (α × β)) (a : α) (b : β) : getA (putA l a b) a = some b := by
  unfold putA
  by_cases h : (l.any fun p => decide (p.1 = a)) = true
  · rw [if_pos h]
    exact getA_map h
  · rw [if_neg h]
    have n : l.find? (fun p => decide (p.1 = a)) = none := List.find?_eq_none.mpr fun x hx z => h (List.any_eq_true.mpr ⟨x, hx, z⟩)
    unfold getA
    rw [List.find?_append, n]
    simp
theorem put_put {α β : Type} [DecidableEq α] (l : List (α × β)) (a : α) (b c : β) : putA (putA l a b) a c = putA l a c := by
  by_cases h : (l.any fun p => decide (p.1 = a)) = true
  · have e : putA l a b = l.map fun p => if p.1 = a then (p.1, b) else p := by unfold putA; rw [if_pos h]
    have e2 : putA l a c = l.map fun p => if p.1 = a then (p.1, c) else p := by unfold putA; rw [if_pos h]
    rw [e, e2]
    unfold putA
    rw [if_pos, List.map_map]
    · refine List.map_congr_left fun x _ => ?_
      show (if (if x.1 = a then (x.1, b) else x).1 = a then ((if x.1 = a then (x.1, b) else x).1, c) else (if x.1 = a then (x.1, b) else x)) = _
      by_cases z : x.1 = a
      · rw [if_pos z]
        simp [z]
      · rw [if_neg z]
    · obtain ⟨x, hx, z⟩ := List.any_eq_true.mp h
      refine List.any_eq_true.mpr ⟨_, List.mem_map.mpr ⟨x, hx, rfl⟩, ?_⟩
      have z := of_decide_eq_true z
      simp [z]
  · have e : putA l a b = l ++ [(a, b)] := by unfold putA; rw [if_neg h]
    have e2 : putA l a c = l ++ [(a, c)] := by unfold putA; rw [if_neg h]
    rw [e, e2]
    unfold putA
    rw [if_pos (by simp), List.map_append, map_put_id c h]
    simp
end PK

set_option Elab.async false
set_option linter.all false
set_option maxRecDepth 100000
set_option maxHeartbeats 2000000
/-! lists where the document lets a list stand for a tuple: taken apart, matched. -/
namespace PK
open PySem L2 PyProof.Rows
section
variable {prog : Program} {w : World} {A : Around} {E : Value → Shared → Prop}
/-- all that is left of a list's walk, at once -/
theorem draw_rest {it l : Addr} {items : Array Value} (d : l ≠ it) : ∀ (xs pre : List Value) (s : Shared) (Q : List Value → Shared → Prop), items.toList = pre ++ xs → s.heap.IsListIter it l pre.length → s.heap.IsList l items →
    (∀ h', h'.IsListIter it l items.size → Heap.SameBut it s.heap h' → Q xs { s with heap := h' }) → wpAny (model prog w) A (draw (.ref it) xs.length) Q E s
  | [], pre, s, Q, e, hit, _, k => by
    have z : items.size = pre.length := by rw [← Array.length_toList, e, List.append_nil]
    exact wpAny_pure (k s.heap (by rw [z]; exact hit) (Heap.SameBut.refl ..))
  | x :: xs, pre, s, Q, e, hit, hl, k => by
    have hx : items[pre.length]? = some x := by rw [← Array.getElem?_toList, e, List.getElem?_append_right (Nat.le_refl _), Nat.sub_self]; rfl
    show wpAny _ _ (pyNext (.ref it) >>= _) Q E s
    refine wpAny_bind (wpAny_pyNext_list_item hit hl hx fun h1 i1 b1 => ?_)
    have e' : items.toList = (pre ++ [x]) ++ xs := by rw [e, List.append_assoc]; rfl
    have i1' : h1.IsListIter it l (pre ++ [x]).length := by rw [List.length_append]; exact i1
    exact wpAny_bind (wpAny_holding (draw_rest d xs (pre ++ [x]) _ _ e' i1' (hl.extBut b1.extBut d) fun h2 i2 b2 => wpAny_pure (k h2 i2 (b1.trans b2))))
theorem unpack_lst {l : Addr} {its : List Value} {s : Shared} {Q : List Value → Shared → Prop} (hh : A.handled = none) (hl : s.heap.IsList l its.toArray)
    (k : ∀ h', Heap.ExtBut s.heap.objs.size s.heap h' → Q its { s with heap := h' }) : wpAny (model prog w) A (unpackItems (.ref l) its.length none) Q E s := by
  have d : l ≠ s.heap.objs.size := Nat.ne_of_lt (Heap.lt_size (show s.heap.get? l = some _ from hl.choose_spec.1))
  unfold unpackItems
  refine wpAny_bind ?_
  unfold notIterableAtAll
  refine wpAny_bind (wpAny_specialOf hl.typeIs slot_list_iter.lookup (wpAny_pure ?_))
  simp only [Bool.false_eq_true, if_false]
  refine wpAny_bind (wpAny_holding (wpAny_pyIter_list hl ?_))
  refine wpAny_bind (wpAny_holding (draw_rest (items := its.toArray) d its [] _ _ rfl ⟨_, Heap.get?_push_size _ rfl, rfl, rfl⟩ (hl.push _) fun h1 i1 b1 => ?_))
  rw [if_neg (Nat.lt_irrefl _)]
  refine wpAny_bind (wpAny_holding (wpAny_pyNext_list_end hh i1 ((hl.push _).extBut b1.extBut d) (by simp) fun h2 b2 => ?_))
  simp only [Option.isSome_none, Bool.false_eq_true, if_false]
  exact wpAny_pure (k h2 fun b o hb e => b2 b o hb (b1.extBut b o hb (Heap.get?_push_of_some _ e)))
end
section
variable {X : Cx} {pos : Pos}
theorem isList_of {h : Heap} {a : Addr} {xs : Array Value} (p : PlainL h a xs) : h.IsList a xs := by
  obtain ⟨o, n, e, c, _, d⟩ := p
  exact ⟨o, e, c, n, d⟩
/-- names in a row, of a list or a tuple -/
def gSeq (K : PySem.W.Frag) (n : Nat) (t : TGs) : TG := fun v σ H Q => ∃ a xs, v = .ref a ∧ (SqL K H a xs ∨ SqT K H a xs) ∧ xs.length = n ∧ t xs σ H Q
theorem pg_seq {es : List Expr} {k : Nat} {t : TGs} {n : Nat} (hc : X.calm = true) (h : PGs X es t)
    (hn : (assignEach es X.env).length = n := by rfl) (hst : (assignEach es X.env).findIdx? (·.1) = none := by rfl) : PG X (.Tuple es k pos) (gSeq X.K n t) := by
  refine ⟨fun pins s σ H v u Q I r hw => ?_⟩
  obtain ⟨a, xs, rfl, hq | hq, hl, hw⟩ := hw
  · cases r
    obtain ⟨its, rv, hp, _⟩ := I.list hq
    have hi : (assignEach es X.env).length = its.length := by rw [hn, ← hl, rv.length]
    rw [assign_Tuple]
    refine wpAny_bind (wpAny_standAt ?_)
    unfold unpack
    rw [hi, hst]
    refine wpAny_bind (wpAny_holding (unpack_lst (I.ok.hd hc) (isList_of hp) fun h' hx => ?_))
    have I1 : Inv X pins σ H { s with heap := h' } := I.kept (t' := s.toks) fun b o e => hx b o (Nat.ne_of_lt (Heap.lt_size e)) e
    exact h.run pins _ σ H xs _ Q I1 rv hw
  · exact (pg_tup hc h hn hst).run pins s σ H _ _ Q I r ⟨a, xs, rfl, hq, hl, hw⟩
/-- a word and names, of a list or a tuple -/
def cWordS (K : PySem.W.Frag) (r : R2) (w : Str) (g : List (Option Nat)) (t : TS) (tc : TC) : TC := fun v D σ H => ∃ a xs, v = .ref a ∧ (SqL K H a xs ∨ SqT K H a xs) ∧
  (if xs.length = g.length + 1 then ∀ x ys, xs = x :: ys → r x (.str w) H fun z H1 => ∃ c, z = .bl c ∧ if c = true then t D (gCaps g ys σ) H1 else tc v D σ H1 else tc v D σ H)
theorem pcs_wordS {w : Str} {ps : List Pattern} {g : List (Option Nat)} {body : List Stmt} {rest : List MatchCase} {t : TS} {tc : TC} {r : R2} {j : Nat} {p1 p2 p3 : Pos} (hN : X.N.Nodup) (hc : X.calm = true) (ho : OpR X (compareOp .Eq) r) (h1 : Caps X ps g) (h2 : PSs X body t) (h3 : PCs X rest tc) :
    PCs X (⟨.MatchSequence (.MatchValue (.Constant (.str w) j p1) p2 :: ps) p3, none, body⟩ :: rest) (cWordS X.K r w g t tc) := by
  refine ⟨fun pins s σ H v u first D I rv h => ?_⟩
  obtain ⟨a, xs, rfl, hq | hq, h⟩ := h
  · cases rv
    obtain ⟨its, rv, hp, hz⟩ := I.list hq
    have ht := isList_of hp
    have hfit : (its.toArray.size : Int) < 2 ^ 63 := by
      have e1 := rv.length
      have e2 : sizeLine < 2 ^ 63 := by decide
      simp only [List.size_toArray]
      omega
    have hgl := h1.length
    have hl := rv.length
    have hst : ((Pattern.MatchValue (.Constant (.str w) j p1) p2) :: ps).findIdx? (·.isStar) = none := by rw [List.findIdx?_cons, h1.noStar]; rfl
    have hwd : (((Pattern.MatchValue (.Constant (.str w) j p1) p2) :: ps).all fun p => p.isWildcard || (p.isStar && p.names.isEmpty)) = false := by rw [List.all_cons]; rfl
    refine wpAny_matchCases_cons ?_
    by_cases hn : xs.length = g.length + 1
    · rw [if_pos hn] at h
      refine matchSeq_list_hit ht hfit (by simp only [List.size_toArray, List.length_cons]; omega) ?_ hst hwd
      rw [show (Pattern.MatchValue (.Constant (.str w) j p1) p2 :: ps).length = its.length from by rw [List.length_cons]; omega]
      refine unpack_lst (I.ok.hd hc) ht fun h' hx => ?_
      have I1 : Inv X pins σ H { s with heap := h', toks := s.toks + 1 + 1 } := I.kept (t' := s.toks + 1 + 1) fun b o e => hx b o (Nat.ne_of_lt (Heap.lt_size e)) e
      cases rv with
      | nil => simp at hn
      | cons rx ry =>
        rename_i x u1 ys us
        refine wpAny_matchEach_cons (wpAny_matchPattern_Value (Calls.Constant_str ?_))
        refine thn (ho pins _ σ H x (.str w) u1 _ _ (I1.tok _) rx ⟨_, rfl⟩ (h x ys rfl)) fun c s2 ⟨z, H1, I2, rz, c', e, q⟩ => ?_
        subst e
        cases rz
        refine wpAny_truthy_bool ?_
        have hl2 : us.length = ps.length := by simp only [List.length_cons] at hl hn; omega
        cases c' with
        | true =>
          rw [if_pos rfl] at q
          exact h1.each hl2 (h1.store hN ry hl2 I2 fun s3 I3 => h2.run pins s3 _ H1 D I3 q)
        | false =>
          rw [if_neg (by decide)] at q
          exact h3.run pins s2 σ H1 (.ref a) _ _ D I2 rfl q
    · rw [if_neg hn] at h
      refine matchSeq_list_miss ht hfit (by simp only [List.size_toArray, List.length_cons]; omega) ?_ hst hwd
      exact h3.run pins _ σ H (.ref a) _ _ D (I.tok _) rfl h
  · refine (pcs_word hN hc ho h1 h2 h3).run pins s σ H _ u first D I rv ⟨a, xs, rfl, hq, h⟩
end
end PK

set_option Elab.async false
set_option linter.all false
set_option maxRecDepth 100000
set_option maxHeartbeats 2000000
/-! sorted(d.items()): a dict of texts and whole numbers, by its keys. -/
namespace PK
open PySem L2 PyProof.Rows
def ltS (a b : Str) : Bool := decide (a.cps.toList < b.cps.toList)
theorem ltS_self (a : Str) : ltS a a = false := decide_eq_false (List.lt_irrefl _)
theorem ltS_asym {a b : Str} (h : ltS a b = true) : ltS b a = false := decide_eq_false (List.lt_asymm (of_decide_eq_true h))
theorem ltS_no {a b : Str} : ltS a b = false ↔ b.cps.toList ≤ a.cps.toList := by
  unfold ltS
  rw [decide_eq_false_iff_not]
  exact List.not_lt
theorem ltS_tr {a b c : Str} (h1 : ltS b a = false) (h2 : ltS c b = false) : ltS c a = false := ltS_no.mpr (List.le_trans (ltS_no.mp h1) (ltS_no.mp h2))
theorem ltS_eq {a b : Str} (h1 : ltS a b = false) (h2 : ltS b a = false) : a = b := by
  have e := List.le_antisymm (ltS_no.mp h2) (ltS_no.mp h1)
  obtain ⟨⟨x⟩⟩ := a
  obtain ⟨⟨y⟩⟩ := b
  exact congrArg Str.mk (congrArg Array.mk e)
/-- the text of the pair at v -/
def txAt (h : Heap) (v : Value) : Str := DT.txOf (DT.seqAt0 h (DT.refOf (some v)))
/-- v is the pair of this text and this number -/
def PrS (h : Heap) (v : Value) (x : Str) (y : Int) : Prop := ∃ (a : Addr) (t u : Tok), v = .ref a ∧ IsTup h a #[.str x t, .int y u]
theorem PrS.tx {h : Heap} {v : Value} {x : Str} {y : Int} (p : PrS h v x y) : txAt h v = x := by
  obtain ⟨a, t, u, rfl, q⟩ := p
  unfold txAt
  rw [show DT.refOf (some (Value.ref a)) = a from rfl, DT.seqAt0_of q]
  rfl
theorem PrS.keep {h h' : Heap} {v : Value} {x : Str} {y : Int} (p : PrS h v x y) (k : ∀ b o, h.get? b = some o → o.cls = .type "tuple" → h'.get? b = some o) : PrS h' v x y := by
  obtain ⟨a, t, u, rfl, o, ho, hc, r⟩ := p
  exact ⟨a, t, u, rfl, o, k _ _ ho hc, hc, r⟩
section
variable {prog : Program} {w : World} {A : Around} {E : Value → Shared → Prop} {s : Shared}
theorem txt_cmp {vs : List Value} {f : Value → Str} (hp : ∀ v ∈ vs, ∃ y, PrS s.heap v (f v) y) (one : ∀ v ∈ vs, ∀ u ∈ vs, f v = f u → v = u) :
    SrtO.Cmp prog w A s (tuples' true) (fun p => p.1 ∈ vs) (SrtO.lt2 fun v u => ltS (f v) (f u)) := by
  intro p q hm hm'
  show wpAny (model prog w) A (keyLt' (tuples' true) p.1 q.1) (fun r s' => s' = s ∧ r = ltS (f p.1) (f q.1)) (fun _ _ => False) s
  obtain ⟨y, a, t, u, e, o, ho, hc, n, hd⟩ := hp _ hm
  obtain ⟨y', a', t', u', e', o', ho', hc', n', hd'⟩ := hp _ hm'
  have same := one _ hm _ hm'
  generalize f p.1 = x at *
  generalize f q.1 = x' at *
  rw [e, e'] at same
  rw [e, e']
  refine PySem.W.kat_lt ho hd ho' hd' ?_
  show PySem.W.KatLex prog w A true (decide (2 < 2)) _ [(.str x t, .str x' t'), (.int y u, .int y' u')] 0 s
  refine PySem.W.kat_cons (SeqAt.EqAt.str_str x t x' t' prog w _ _ ?_)
  refine PySem.W.kat_go (fun e1 => ?_) (fun e1 => ?_)
  · have ex : x = x' := by simpa using e1
    obtain rfl : a = a' := Value.ref.inj (same ex)
    rw [ho] at ho'
    obtain rfl := Option.some.inj ho'
    rw [hd] at hd'
    injection hd' with d1 _
    have d2 := congrArg Array.toList d1
    simp only [List.cons.injEq, Value.int.injEq] at d2
    obtain rfl : y = y' := d2.2.1.1
    refine PySem.W.kat_yes (PySem.W.kat_cons (SeqAt.EqAt.int_int y u y u' prog w _ _ ?_))
    refine PySem.W.kat_go (fun _ => PySem.W.kat_yes (PySem.W.kat_nil ⟨rfl, ?_⟩)) (fun e2 => absurd e2 (by simp))
    rw [← ex, ltS_self]
    rfl
  · exact PySem.W.kat_no (oneLt_str ⟨rfl, rfl⟩)
theorem txt_firsts {h : Heap} : ∀ vs : List Value, (∀ v ∈ vs, ∃ x y, PrS h v x y) → ∃ fs : List Value, PySem.W.KatTups h vs fs ∧ fs.length = vs.length ∧ ∀ f ∈ fs, ∃ x t, f = Value.str x t
  | [], _ => ⟨[], PySem.W.KatTups.nil, rfl, fun _ q => nomatch q⟩
  | v :: vs, hp => by
    obtain ⟨fs, h1, h2, h3⟩ := txt_firsts vs fun u q => hp u (List.mem_cons_of_mem _ q)
    obtain ⟨x, y, a, t, u, rfl, o, ho, hc, n, hd⟩ := hp v List.mem_cons_self
    refine ⟨.str x t :: fs, PySem.W.KatTups.cons ho hc hd rfl h1, by rw [List.length_cons, List.length_cons, h2], fun f q => ?_⟩
    rcases List.mem_cons.mp q with rfl | q
    · exact ⟨x, t, rfl⟩
    · exact h3 f q
theorem txt_sortable {a : Addr} {vs : List Value} {f : Value → Str} (h2 : 2 ≤ vs.length) (hp : ∀ v ∈ vs, ∃ y, PrS s.heap v (f v) y) (one : ∀ v ∈ vs, ∀ u ∈ vs, f v = f u → v = u) (ha : ∀ o, s.heap.get? a = some o → o.cls ≠ .type "tuple") :
    SrtO.SortableO prog w A s a vs fun v u => ltS (f v) (f u) := by
  intro h' keep
  have hp' : ∀ v ∈ vs, ∃ y, PrS h' v (f v) y := fun v q => by
    obtain ⟨y, z⟩ := hp v q
    exact ⟨y, z.keep fun b o e c => keep b o (fun i => by subst i; exact ha o e c) e⟩
  obtain ⟨fs, k1, k2, k3⟩ := txt_firsts vs fun v q => ⟨_, hp' v q⟩
  refine ⟨tuples' true, fun Q E hq => ?_, txt_cmp hp' one⟩
  refine PySem.W.kat_kind (T := .type "str") k1 (by omega) (fun f q => ?_) (by rfl) ?_
  · obtain ⟨x, t, rfl⟩ := k3 f q
    exact PySem.W.Looks.now
  · have e : (Value.type "str" != Value.type "tuple") = true := by first | decide +kernel | rfl | decide
    rw [e]
    exact hq
end
theorem swoS {α : Type} (f : α → Str) : SrtO.Swo fun v u => ltS (f v) (f u) := ⟨fun _ _ h => ltS_asym h, fun _ _ _ h1 h2 => ltS_tr h1 h2⟩
end PK

set_option Elab.async false
set_option linter.all false
set_option maxRecDepth 100000
set_option maxHeartbeats 2000000
namespace PK
open PySem L2 PyProof.Rows
section
variable {X : Cx}
abbrev txV (e : Str × Int) : Key × V := (Sum.inr e.1, V.int e.2)
def rItemsX : V → List V → Hp → VK → Prop := fun x xs H Q => ∃ (a : Addr) (l : List (Str × Int)), x = .ref a ∧ xs = [] ∧ H a = some (.dK (l.map txV)) ∧ ∀ p, H p = none → Q (.ref p) (upd H p (L2.DX.itemsO p a))
theorem dk_rows {P : Program} {w : World} : ∀ (l : List (Str × Int)) (vs : List (Key × Value)) (es : List DictEntry), KV (l.map txV) vs → Pairs (mixKind P w) es vs →
    vs.map (·.1) = l.map (fun p => Sum.inr p.1) ∧ es.length = l.length ∧ ∀ (j : Nat) (e : DictEntry), es[j]? = some e → ∃ (p : Str × Int) (t u : Tok), l[j]? = some p ∧ e.key = Value.str p.1 t ∧ e.val = Value.int p.2 u
  | [], vs, es, k, q => by
    cases k
    cases q
    exact ⟨rfl, rfl, fun j e h => by simp at h⟩
  | p :: l, vs, es, k, q => by
    cases k with
    | cons k1 k2 =>
      cases q with
      | cons q1 q2 q3 =>
        obtain ⟨e1, u, e2⟩ := k1
        obtain ⟨z1, z2, z3⟩ := dk_rows l _ _ k2 q3
        rw [← e1] at q1
        rcases keyIs_shape (show keyIs (Sum.inr p.1) _ = true from q1) with ⟨i, t, f, _⟩ | ⟨x, t, f, g⟩
        · cases f
        · refine ⟨by rw [List.map_cons, List.map_cons, z1, ← e1], by rw [List.length_cons, List.length_cons, z2], fun j e h => ?_⟩
          match j with
          | 0 =>
            obtain rfl := Option.some.inj h
            exact ⟨p, t, u, rfl, by rw [g, Sum.inr.inj f], by rw [q2, e2]⟩
          | j + 1 => exact z3 j e h
theorem dk_raw {H : Hp} {h : Heap} {a : Addr} {l : List (Str × Int)} {P : Program} {w : World} (ok : ObjOk P w H h a (.dK (l.map txV))) :
    (a == sysModules) = false ∧ l.length ≤ sizeLine ∧ (l.map (·.1)).Nodup ∧ ∃ es ep, DT.Raw h a es ep ∧ es.size = l.length ∧ ∀ (j : Nat) (e : DictEntry), es[j]? = some e → ∃ (p : Str × Int) (t u : Tok), l[j]? = some p ∧ e.key = Value.str p.1 t ∧ e.val = Value.int p.2 u := by
  obtain ⟨hz, hs, vs, kv, o, es, ep, ho, hx, hd, _, ps, nd⟩ := ok
  rw [List.length_map] at hz
  obtain ⟨z1, z2, z3⟩ := dk_rows l vs es.toList kv ps
  rw [z1] at nd
  refine ⟨hs, hz, ?_, es, ep, ⟨o, ho, hx, hd⟩, by rw [← z2, Array.length_toList], fun j e h => z3 j e (by rw [Array.getElem?_toList]; exact h)⟩
  unfold List.Nodup at nd ⊢
  rw [List.pairwise_map] at nd ⊢
  exact nd.imp fun h q => h (by rw [q])
theorem mt_itemsX : MtR X "dict.items" rItemsX := by
  intro pins s σ H x xs v us Q I rx rxs h
  obtain ⟨a, l, rfl, rfl, ha, q⟩ := h
  cases rx
  cases rxs
  obtain ⟨hd, _, _, es, ep, raw, _⟩ := dk_raw (I.hok _ _ ha)
  refine DT.callItems hd raw ⟨.ref s.heap.objs.size, upd H s.heap.objs.size (L2.DX.itemsO s.heap.objs.size a), I.laid (t' := s.toks) (fun b u e => Heap.get?_push_of_some _ e) (Nat.le_refl _) (L2.DX.itemsO_ok (Heap.get?_push_size _ rfl)), rfl, q _ (I.hok.fresh (Nat.le_refl _))⟩
/-- a row of pairs by its keys, one put in at its place at a time -/
def insS (e : Str × Int) : List (Str × Int) → List (Str × Int)
  | [] => [e]
  | f :: l => if ltS f.1 e.1 = true then f :: insS e l else e :: f :: l
def ordS (l : List (Str × Int)) : List (Str × Int) := l.foldr insS []
abbrev Srt (l : List (Str × Int)) : Prop := l.Pairwise fun e f => ltS f.1 e.1 = false
theorem insS_perm (e : Str × Int) : ∀ l : List (Str × Int), (insS e l).Perm (e :: l)
  | [] => List.Perm.refl _
  | f :: l => by
    unfold insS
    split
    · exact ((insS_perm e l).cons f).trans (List.Perm.swap ..)
    · exact List.Perm.refl _
theorem insS_srt (e : Str × Int) : ∀ {l : List (Str × Int)}, Srt l → Srt (insS e l)
  | [], _ => List.pairwise_singleton _ _
  | f :: l, h => by
    have h' := List.pairwise_cons.mp h
    unfold insS
    split
    · rename_i lt
      refine List.pairwise_cons.mpr ⟨fun g hg => ?_, insS_srt e h'.2⟩
      rcases List.mem_cons.mp ((insS_perm e l).mem_iff.mp hg) with rfl | hg
      · exact ltS_asym lt
      · exact h'.1 g hg
    · rename_i no
      have no' : ltS f.1 e.1 = false := by simpa using no
      refine List.pairwise_cons.mpr ⟨fun g hg => ?_, h⟩
      rcases List.mem_cons.mp hg with rfl | hg
      · exact no'
      · exact ltS_tr no' (h'.1 g hg)
theorem ordS_perm : ∀ l : List (Str × Int), (ordS l).Perm l
  | [] => List.Perm.refl _
  | e :: l => (insS_perm e (ordS l)).trans ((ordS_perm l).cons e)
theorem ordS_srt : ∀ l : List (Str × Int), Srt (ordS l)
  | [] => .nil
  | e :: l => insS_srt e (ordS_srt l)
theorem srt_one : ∀ {l m : List (Str × Int)}, Srt l → Srt m → l.Perm m → (l.map (·.1)).Nodup → l = m
  | [], m, _, _, p, _ => (List.Perm.eq_nil p.symm).symm
  | x :: l, [], _, _, p, _ => absurd p.length_eq (by simp)
  | x :: l, y :: m, hl, hm, p, nd => by
    have h1 := List.pairwise_cons.mp hl
    have h2 := List.pairwise_cons.mp hm
    rw [List.map_cons, List.nodup_cons] at nd
    have e : x = y := by
      rcases List.mem_cons.mp (p.mem_iff.mp (List.mem_cons_self (a := x) (l := l))) with e | hx
      · exact e
      · rcases List.mem_cons.mp (p.mem_iff.mpr (List.mem_cons_self (a := y) (l := m))) with e | hy
        · exact e.symm
        · exact absurd (List.mem_map.mpr ⟨y, hy, ltS_eq (h1.1 y hy) (h2.1 x hx)⟩) nd.1
    subst e
    rw [srt_one h1.2 h2.2 p.cons_inv nd.2]
theorem ordS_one {l m : List (Str × Int)} (s : Srt m) (p : m.Perm l) (nd : (l.map (·.1)).Nodup) : m = ordS l :=
  srt_one s (ordS_srt l) (p.trans (ordS_perm l).symm) ((p.map (·.1)).nodup_iff.mpr nd)
/-- by its keys, which are all different -/
def rSortX : List V → Hp → VK → Prop := fun vs H Q => ∃ (p a : Addr) (l : List (Str × Int)), vs = [.ref p] ∧ H p = some (L2.DX.itemsO p a) ∧ H a = some (.dK (l.map txV)) ∧
  ∀ (H' : Hp) (q : Addr) (xs : List V), Gr [] H H' → H q = none → H' q = some (.lst xs) → Tps H' xs ((ordS l).map fun e => [.str e.1, .int e.2]) → Q (.ref q) H'
theorem cr_sortedX (hc : X.calm = true) : CallR X (.builtin "sorted") rSortX := by
  intro pins s σ H xs us Q I r h
  obtain ⟨p, a, l, rfl, hp, ha, q⟩ := h
  obtain rfl := Vals.ref1 r
  have view : s.heap.IsItemsView p a := (show ObjOk X.prog X.w H s.heap p (L2.DX.itemsO p a) from I.hok p _ hp).1
  obtain ⟨_, hz, nd, es, ep, raw, hn, hes⟩ := dk_raw (I.hok _ _ ha)
  have hh : X.A.handled = none := I.ok.hd hc
  refine DT.sortedI hh view raw (by rw [hn]; exact hz) fun h' tk as hk hlt hl hG => ?_
  have lal : as.length = l.length := hl.trans hn
  have ndA : as.Nodup := List.Pairwise.imp (fun h => Nat.ne_of_lt h) hG.rise
  have pr : ∀ (j : Nat) (b : Addr), as[j]? = some b → ∃ e, l[j]? = some e ∧ PrS h' (.ref b) e.1 e.2 := by
    intro j b hj
    obtain ⟨en, he, hg⟩ := hG.pairs j b hj
    obtain ⟨e, t, u, e1, e2, e3⟩ := hes j en he
    refine ⟨e, e1, b, t, u, rfl, _, hg, rfl, 0, ?_⟩
    rw [e2, e3]
  have hob : (h'.push { cls := .type "list", data := .seq (as.map Value.ref).toArray }).get? h'.objs.size = some (seqObj "list" (as.map Value.ref).toArray 0) := Heap.get?_push_size _ rfl
  have ka : ∀ b o, h'.get? b = some o → (h'.push { cls := .type "list", data := .seq (as.map Value.ref).toArray }).get? b = some o := fun b o e => Heap.get?_push_of_some _ e
  have ne0 : ∀ b o, h'.get? b = some o → b ≠ h'.objs.size := fun b o e => Nat.ne_of_lt (Heap.lt_size e)
  generalize (h'.push { cls := .type "list", data := .seq (as.map Value.ref).toArray }) = h2 at *
  have pr2 : ∀ (j : Nat) (b : Addr), as[j]? = some b → ∃ e, l[j]? = some e ∧ PrS h2 (.ref b) e.1 e.2 := fun j b hj => by
    obtain ⟨e, e1, e2⟩ := pr j b hj
    exact ⟨e, e1, e2.keep fun b o e _ => ka b o e⟩
  have at_ : ∀ v ∈ as.map Value.ref, ∃ (j : Nat) (b : Addr) (e : Str × Int), v = .ref b ∧ as[j]? = some b ∧ l[j]? = some e ∧ PrS h2 (.ref b) e.1 e.2 := by
    intro v hv
    obtain ⟨b, hb, rfl⟩ := List.mem_map.mp hv
    obtain ⟨j, hj⟩ := List.mem_iff_getElem?.mp hb
    obtain ⟨e, he, pe⟩ := pr2 j b hj
    exact ⟨j, b, e, rfl, hj, he, pe⟩
  have hP : ∀ v ∈ as.map Value.ref, ∃ y, PrS h2 v (txAt h2 v) y := fun v hv => by
    obtain ⟨j, b, e, rfl, _, _, pe⟩ := at_ v hv
    exact ⟨e.2, by rw [pe.tx]; exact pe⟩
  have one : ∀ v ∈ as.map Value.ref, ∀ u ∈ as.map Value.ref, txAt h2 v = txAt h2 u → v = u := fun v hv u hu e => by
    obtain ⟨j, b, x, rfl, hj, hx, px⟩ := at_ v hv
    obtain ⟨i, c, y, rfl, hi, hy, py⟩ := at_ u hu
    rw [px.tx, py.tx] at e
    have e1 : (l.map (·.1))[j]? = some x.1 := by rw [List.getElem?_map, hx]; rfl
    have e2 : (l.map (·.1))[i]? = some x.1 := by rw [List.getElem?_map, hy, e]; rfl
    obtain rfl : j = i := (List.getElem?_inj (List.getElem?_eq_some_iff.mp e1).1 nd).mp (e1.trans e2.symm)
    rw [hj] at hi
    rw [Option.some.inj hi]
  refine wpAny_call_entry PyProof.Rows.slot_list_sort ⟨_, hob, rfl⟩ PyProof.Rows.entry_list_sort
    (SrtO.list_sort_ord (s := { s with heap := h2, toks := tk }) (swoS (txAt h2)) hob (by rw [List.length_map, lal]; exact hz) (fun h2' => txt_sortable (s := { s with heap := h2, toks := tk }) h2' hP one fun o e => ?_) fun out hs hb => ⟨.none, rfl, ?_⟩) (PyProof.Rows.args_list_sort _)
  · have e' : some o = some (seqObj "list" (as.map Value.ref).toArray 0) := e.symm.trans hob
    cases e'
    exact fun c => absurd (Value.type.inj c) (by decide)
  · show EP X pins σ Q (.ref h'.objs.size) { s with heap := sortedHeap h2 h'.objs.size (as.map Value.ref) out.toArray, toks := tk }
    have ez0 : (as.zip l).map (fun z => Value.ref z.1) = as.map Value.ref := by
      rw [show (fun z : Addr × Str × Int => Value.ref z.1) = Value.ref ∘ Prod.fst from rfl, ← List.map_map, List.map_fst_zip (by rw [lal]; exact Nat.le_refl _)]
    obtain ⟨zs, pz, ez⟩ := perm_lift (fun z : Addr × Str × Int => Value.ref z.1) hb.perm (as.zip l) ez0
    have idx : ∀ z ∈ zs, ∃ j : Nat, as[j]? = some z.1 ∧ l[j]? = some z.2 := fun z hz => by
      obtain ⟨j, hj⟩ := List.mem_iff_getElem?.mp (pz.mem_iff.mp hz)
      exact ⟨j, List.getElem?_zip_eq_some.mp hj⟩
    have ztx : ∀ z ∈ zs, txAt h2 (.ref z.1) = z.2.1 := fun z hz => by
      obtain ⟨j, j1, j2⟩ := idx z hz
      obtain ⟨e, e1, e2⟩ := pr2 j _ j1
      rw [e2.tx, Option.some.inj (e1.symm.trans j2)]
    have hperm : (zs.map (·.2)).Perm l := by
      have e := pz.map (·.2)
      rw [List.map_snd_zip (by rw [lal]; exact Nat.le_refl _)] at e
      exact e
    have hsort : (zs.map (·.2)).Pairwise fun e f => ltS f.1 e.1 = false := by
      have hs' : (zs.map fun z => Value.ref z.1).Pairwise fun x y => ltS (txAt h2 y) (txAt h2 x) = false := by rw [ez]; exact hs
      rw [List.pairwise_map] at hs' ⊢
      refine List.Pairwise.imp_of_mem (fun {x y} hx hy h => ?_) hs'
      rw [ztx x hx, ztx y hy] at h
      exact h
    have kF : ∀ b o, b ≠ h'.objs.size → h2.get? b = some o → (sortedHeap h2 h'.objs.size (as.map Value.ref) out.toArray).get? b = some o := fun b o hb e => (PyProof.Rows.sortedHeap_old hb (Heap.lt_size e)).trans e
    have kS : ∀ b o, s.heap.get? b = some o → (sortedHeap h2 h'.objs.size (as.map Value.ref) out.toArray).get? b = some o := fun b o e => kF b o (ne0 _ _ (hk b o e)) (ka _ _ (hk b o e))
    obtain ⟨eF, heF⟩ := PyProof.Rows.sortedHeap_at (vs := as.map Value.ref) (out := out.toArray) hob
    have I1 : Inv X pins σ H { s with heap := sortedHeap h2 h'.objs.size (as.map Value.ref) out.toArray, toks := tk } := I.kept (t' := tk) kS
    have hn0 : H h'.objs.size = none := I.hok.fresh (Nat.le_of_lt hlt)
    have rv : Vals (zs.map fun z => V.ref z.1) out := by
      rw [← ez]
      exact vals_maps (fun z : Addr × Str × Int => V.ref z.1) (fun z => Value.ref z.1) zs fun _ _ => rfl
    have hlen : (zs.map fun z => V.ref z.1).length ≤ sizeLine := by
      have e := hperm.length_eq
      rw [List.length_map] at e
      rw [List.length_map, e]
      exact hz
    have I2 : Inv X pins σ (upd H h'.objs.size (.lst (zs.map fun z => V.ref z.1))) { s with heap := sortedHeap h2 h'.objs.size (as.map Value.ref) out.toArray, toks := tk } :=
      I1.take (h' := sortedHeap h2 h'.objs.size (as.map Value.ref) out.toArray) (t' := tk) (fun b ob _ e => e) (I.fpOk (Nat.le_of_lt hlt) hn0) ⟨hlen, out, eF, rv, heF⟩
    obtain ⟨H2, I3, g, qt⟩ := L2.DX.takeT (P := fun b vs => ∃ (j : Nat) (e : Str × Int), as[j]? = some b ∧ l[j]? = some e ∧ vs = [.str e.1, .int e.2]) I as _ I2 ndA fun b hb => by
      obtain ⟨j, hj⟩ := List.mem_iff_getElem?.mp hb
      obtain ⟨e, he, b', t, u, eb, o, ho, hc', n, hd⟩ := pr j b hj
      obtain rfl := Value.ref.inj eb
      have hbl : s.heap.objs.size ≤ b := Nat.le_of_lt (hG.above b hb)
      refine ⟨hbl, ?_, [.str e.1, .int e.2], ⟨j, e, hj, he, rfl⟩, fun H3 => ⟨(by show 2 ≤ sizeLine; decide), [Value.str e.1 t, Value.int e.2 u], .cons ⟨t, rfl⟩ (.cons ⟨u, rfl⟩ .nil), ⟨o, kF _ _ (ne0 _ _ ho) (ka _ _ ho), hc', n, hd⟩⟩⟩
      rw [upd_ne (ne0 _ _ ho)]
      exact I.hok.fresh hbl
    refine ⟨.ref h'.objs.size, H2, I3, rfl, q H2 h'.objs.size (zs.map fun z => V.ref z.1) (Gr.of_ex fun b o e => g b o (by rw [upd_ne (ne_of_none e hn0)]; exact e)) hn0 (g _ _ upd_same) ?_⟩
    rw [← ordS_one hsort hperm nd, List.map_map]
    have fin : ∀ ws : List (Addr × Str × Int), (∀ z ∈ ws, H2 z.1 = some (.tup [.str z.2.1, .int z.2.2])) → Tps H2 (ws.map fun z => V.ref z.1) (ws.map fun z => [V.str z.2.1, V.int z.2.2]) := by
      intro ws
      induction ws with
      | nil => exact fun _ => .nil
      | cons z ws ih => exact fun h => .cons ⟨_, rfl, h z List.mem_cons_self⟩ (ih fun y hy => h y (List.mem_cons_of_mem _ hy))
    refine fin zs fun z hz => ?_
    obtain ⟨i, i1, i2⟩ := idx z hz
    obtain ⟨vs, ⟨j, e, j1, j2, rfl⟩, hH⟩ := qt z.1 (List.mem_of_getElem? i1)
    obtain rfl : i = j := (List.getElem?_inj (List.getElem?_eq_some_iff.mp i1).1 ndA).mp (i1.trans j1.symm)
    rw [Option.some.inj (j2.symm.trans i2)] at hH
    exact hH
end
end PK

set_option Elab.async false
set_option linter.all false
set_option maxRecDepth 100000
set_option maxHeartbeats 2000000
/-! tuple(l) of which the object stays known; dict(t) of such a tuple of pairs. -/
namespace PK
open PySem L2 PyProof.Rows
section
variable {X : Cx}
def rTupZ (K : PySem.W.Frag) : List V → Hp → VK → Prop := fun xs H Q => ∃ p ys, xs = [.ref p] ∧ SqL K H p ys ∧ ∀ l ob, ob.cls = .type "tuple" → ob.dict = none → H l = none → Q (.ref l) (upd H l (.frz ob (.tup ys)))
theorem call_tuple_fz {K : PySem.W.Frag} (hK : X.K = K := by rfl) : CallR X (.type "tuple") (rTupZ K) := by
  subst hK
  intro pins s σ H xs us Q I r h
  obtain ⟨p, ys, rfl, hq, q⟩ := h
  obtain rfl := Vals.ref1 r
  obtain ⟨its, rv, pl, hz⟩ := I.list hq
  refine call_tuple_list pl.isList (fun h' kp => ?_) (by have := rv.length; simp only [List.size_toArray]; omega)
  have I1 : Inv X pins σ H { s with heap := h' } := I.kept (t' := s.toks) kp
  have hg : (h'.push { cls := .type "tuple", data := .seq its.toArray }).get? h'.objs.size = some { cls := .type "tuple", data := .seq its.toArray } := Heap.get?_push_size _ rfl
  have I2 : Inv X pins σ (upd H h'.objs.size (.frz { cls := .type "tuple", data := .seq its.toArray } (.tup ys))) { s with heap := h'.push { cls := .type "tuple", data := .seq its.toArray } } :=
    I1.laid (t' := s.toks) (fun b o e => Heap.get?_push_of_some _ e) (Nat.le_refl _) ⟨hg, hz, its, rv, IsTup.new _ _⟩
  exact ⟨.ref h'.objs.size, _, I2, rfl, q _ _ rfl rfl (I1.hok.fresh (Nat.le_refl _))⟩
def mrgA (l : List (Str × Int)) : List (Str × Int) := l.foldl (fun t e => putA t e.1 e.2) []
theorem mrg_tab (l : List (Str × Int)) : mergeK [] (l.map txV) = tabV (mrgA l) := by
  have go : ∀ (l acc : List (Str × Int)), mergeK (tabV acc) (l.map txV) = tabV (l.foldl (fun t e => putA t e.1 e.2) acc) := by
    intro l
    induction l with
    | nil => exact fun _ => rfl
    | cons e l ih =>
      intro acc
      rw [List.map_cons, List.foldl_cons, ← ih]
      show mergeK (putK (tabV acc) (.inr e.1) (.int e.2)) (l.map txV) = _
      rw [show putK (tabV acc) (.inr e.1) (.int e.2) = tabV (putA acc e.1 e.2) from put_map Sum.inr inr_inj V.int acc e.1 e.2]
  exact go l []
theorem prs_of {H : Hp} {h : Heap} {P : Program} {w : World} (ok : HOk P w H h) : ∀ (xs : List V) (its : List Value) (l : List (Str × Int)), Vals xs its → Tps H xs (l.map fun e => [.str e.1, .int e.2]) →
    ∃ ps : List (Value × Value), ps.length = l.length ∧ its.length = l.length ∧ ∃ kvs : List (Key × Value), KV (l.map txV) kvs ∧ ∀ (j : Nat) (k v : Value), ps[j]? = some (k, v) → (∃ c, its[j]? = some (.ref c) ∧ IsTup h c #[k, v]) ∧ ∃ y, kvs[j]? = some (y, v) ∧ keyIs y k = true
  | [], its, [], r, _ => by
    cases r
    exact ⟨[], rfl, rfl, [], .nil, fun j k v e => by simp at e⟩
  | [], _, _ :: _, _, t => by cases t
  | _ :: _, _, [], _, t => by cases t
  | x :: xs, its, e :: l, r, t => by
    cases r with
    | cons r1 r2 =>
      cases t with
      | cons t1 t2 =>
        obtain ⟨ps, p1, p2, kvs, p3, p4⟩ := prs_of ok xs _ l r2 t2
        obtain ⟨c, rfl, hc⟩ := t1
        obtain ⟨_, its2, rv, tp⟩ := ok c _ hc
        obtain ⟨u1, u2, rfl, q1, q2⟩ := vals2 rv
        obtain ⟨t, rfl⟩ := q1
        obtain ⟨u, rfl⟩ := q2
        cases r1
        refine ⟨(.str e.1 t, .int e.2 u) :: ps, by rw [List.length_cons, List.length_cons, p1], by rw [List.length_cons, List.length_cons, p2], (.inr e.1, .int e.2 u) :: kvs, .cons ⟨rfl, u, rfl⟩ p3, fun j k v ej => ?_⟩
        match j with
        | 0 =>
          cases ej
          exact ⟨⟨c, rfl, tp⟩, _, rfl, keyIs_str _ _⟩
        | j + 1 => exact p4 j k v ej
/-- dict(t), t such a tuple of pairs -/
def rDictT : List V → Hp → VK → Prop := fun vs H Q => ∃ (b : Addr) (xs : List V) (l : List (Str × Int)), vs = [.ref b] ∧ FzT H b xs ∧ Tps H xs (l.map fun e => [.str e.1, .int e.2]) ∧ ∀ p, H p = none → Q (.ref p) (upd H p (.dK (tabV (mrgA l))))
theorem call_dictT (hcalm : X.calm = true) : CallR X (.type "dict") rDictT := by
  intro pins s σ H vs us Q I r h
  obtain ⟨b, xs, l, rfl, ⟨ob, hb, hcl, hdi⟩, ht, q⟩ := h
  obtain rfl := Vals.ref1 r
  obtain ⟨hg, hz, its, rv, o, ho, hc, n, hd⟩ := I.hok b _ hb
  rw [hg] at ho
  obtain rfl := Option.some.inj ho
  obtain ⟨ps, p1, p2, kvs, kv, p4⟩ := prs_of I.hok xs its l rv ht
  have ll : kvs.length = l.length := by rw [← Paired.length kv, List.length_map]
  have xl := rv.length
  have P := PySem.PairArg.tuple (prog := X.prog) (w := X.w) b its.toArray (fun j => DT.refOf (its[j]?)) ps
  refine PySem.call_dict_pairs (knd := mixKind X.prog X.w) (kvs := kvs) P (I.ok.hd hcalm) ⟨⟨ob, n, hg, hc, hdi, hd⟩, by rw [List.size_toArray, p1, p2], fun j k v e => ?_⟩ ⟨by rw [ll, p1], fun i key v e => ?_⟩ (by rw [p1, ← p2]; omega) fun h' tk hd' hk => ?_
  · obtain ⟨⟨c, e1, e2⟩, _⟩ := p4 j k v e
    refine ⟨?_, .inl ?_⟩
    · simp only [List.getElem?_toArray, e1]
      rfl
    · dsimp only
      rw [e1]
      exact e2
  · obtain ⟨_, y, e1, e2⟩ := p4 i key v e
    exact ⟨y, e1, e2⟩
  · have hm : (s.heap.objs.size == sysModules) = false := beq_eq_false_iff_ne.mpr (Nat.ne_of_gt I.big)
    have hlen : (mergeK [] (l.map txV)).length ≤ sizeLine := by
      refine Nat.le_trans (length_mergeK (l.map txV) []) ?_
      rw [List.length_nil, List.length_map]
      omega
    have e0 := mrg_tab l
    have q0 := q s.heap.objs.size (I.hok.fresh (Nat.le_refl _))
    rw [← e0] at q0
    exact ⟨.ref s.heap.objs.size, upd H s.heap.objs.size (.dK (mergeK [] (l.map txV))), I.laid (t' := tk) (fun b o e => hk b o (by simp) e) (Nat.le_refl _) (show ObjOk X.prog X.w _ _ _ (.dK (mergeK [] (l.map txV))) from ⟨hlen, hm, merged [] kvs, KV.merge kv .nil, hd'⟩), rfl, q0⟩
end
end PK

set_option Elab.async false
set_option linter.all false
set_option maxRecDepth 100000
set_option maxHeartbeats 2000000
namespace PK
open PySem L2 PyProof.Rows
section
variable {K : PySem.W.Frag} {σ : L2.St} {H : Hp} {D : Ends}
theorem s_skip {r : R2} {w : Str} {g : List (Option Nat)} {t : TS} {tc : TC} {a : Addr} {xs : List V} (h : Sq K H a xs) (hn : xs.length ≠ g.length + 1) (k : tc (.ref a) D σ H) : cWordS K r w g t tc (.ref a) D σ H :=
  ⟨a, xs, rfl, h, by rw [if_neg hn]; exact k⟩
theorem s_ask {w u : Str} {g : List (Option Nat)} {t : TS} {tc : TC} {a : Addr} {ys : List V} (h : Sq K H a (.str u :: ys)) (ho : PyData.strOk u = true) (hw : PyData.strOk w = true)
    (k1 : u = w → ys.length = g.length → t D (gCaps g ys σ) H) (k2 : ¬ (u = w ∧ ys.length = g.length) → tc (.ref a) D σ H) : cWordS K (rEqD K) w g t tc (.ref a) D σ H := by
  by_cases hl : ys.length = g.length
  · refine ⟨a, _, rfl, h, ?_⟩
    rw [if_pos (by simp [hl])]
    intro x' ys' e
    cases e
    refine ⟨.str u, .str w, .str u, .str w, (Sh.str (n := 0) ho).shaped (by omega), (Sh.str (n := 0) hw).shaped (by omega), isW w (.str u), rfl, ?_⟩
    rw [isW_str]
    by_cases e : u = w
    · rw [if_pos (by simpa using e)]
      exact k1 e hl
    · rw [if_neg (by simpa using e)]
      exact k2 fun z => e z.1
  · exact s_skip h (by simp [hl]) (k2 fun z => hl z.2)
theorem s_yes {w : Str} {g : List (Option Nat)} {t : TS} {tc : TC} {a : Addr} {ys : List V} (h : Sq K H a (.str w :: ys)) (hl : ys.length = g.length) (hw : PyData.strOk w = true) (k : t D (gCaps g ys σ) H) : cWordS K (rEqD K) w g t tc (.ref a) D σ H :=
  s_ask h hw hw (fun _ _ => k) fun no => (no ⟨rfl, hl⟩).elim
theorem s_not {w u : Str} {g : List (Option Nat)} {t : TS} {tc : TC} {a : Addr} {ys : List V} (h : Sq K H a (.str u :: ys)) (ho : PyData.strOk u = true) (hw : PyData.strOk w = true) (ne : ¬ u = w) (k : tc (.ref a) D σ H) : cWordS K (rEqD K) w g t tc (.ref a) D σ H :=
  s_ask h ho hw (fun e _ => (ne e).elim) fun _ => k
end
theorem pg_seqK {X : Cx} {K : PySem.W.Frag} {pos : Pos} {es : List Expr} {k : Nat} {t : TGs} {n : Nat} (hc : X.calm = true) (h : PGs X es t) (hK : X.K = K := by rfl)
    (hn : (assignEach es X.env).length = n := by rfl) (hst : (assignEach es X.env).findIdx? (·.1) = none := by rfl) : PG X (.Tuple es k pos) (gSeq K n t) := by
  subst hK; exact pg_seq hc h hn hst
theorem pe_makeA {X : Cx} {C : Addr} {k : Nat} {x : Str} {ps : List Str} {sp : Sp} {e : Expr} {es : List Expr} {pos p : Pos} {t : TA} (D : HasI X.prog X.w X.K X.mg X.base C k x ps sp) (hr : Room (k + 1) X.A) (hg : Gl X x) (ha : PA X (e :: es) t) (hdb : (x == ("__debug__" : Str)) = false := by decide)
    (he : starEach (e :: es) X.env = (false, eval e X.env) :: starEach es X.env := by rfl) (hpl : (backTo pos (starEach es X.env)).any (·.1) = false := by rfl) : PE X (.Call (.Name x p) (e :: es) [] pos) (tMake C sp [] E0 t) := by
  obtain ⟨f, fd, F, M, m, b⟩ := D.ex
  exact pe_make M F hr hg m b .nil pass0 ha hdb he hpl
theorem w_gseq {K : PySem.W.Frag} {σ : L2.St} {H : Hp} {n : Nat} {t : TGs} {a : Addr} {xs : List V} {R : L2.St → Hp → Prop} (h : Sq K H a xs) (hn : xs.length = n) (k : t xs σ H R) : gSeq K n t (.ref a) σ H R := ⟨a, xs, rfl, h, hn, k⟩
/-- a def that has defaults, all of its parameters told -/
structure DfID (K : PySem.W.Frag) (mg : Str → Option Value) (C : Addr) (x q : Str) (st : Stmt) (ps : List Str) : Prop where
  ex : ∃ dvs f fd, FunD K "__init__" q (defArgs st) (defBody st) (defScope st) dvs [] f fd ∧ Mk K C f ∧ mg x = some (.ref C) ∧ Binds K fd ps []
section
variable {P : Program} {w : World} {K : PySem.W.Frag} {mg : Str → Option Value} {base : Heap}
theorem HasI.mkD {C : Addr} {k : Nat} {x q : Str} {st : Stmt} {ps : List Str} {sp : Sp} (D : DfID K mg C x q st ps) (h : ∀ dvs f fd, FunD K "__init__" q (defArgs st) (defBody st) (defScope st) dvs [] f fd → FnOk P w K mg base CX0 k f fd ps sp) : HasI P w K mg base C k x ps sp := by
  obtain ⟨dvs, f, fd, F, r⟩ := D.ex
  exact ⟨f, fd, h dvs f fd F, r⟩
theorem funD_ok {x qual : Str} {st : Stmt} {dvs : List V} {f : Addr} {fd : FuncData} {N ps : List Str} {k : Nat} {sp : Sp} (F : FunD K x qual (defArgs st) (defBody st) (defScope st) dvs [] f fd) (S : FnScope N ps (defScope st)) (len : ∀ vs H Q E, sp vs H Q E → vs.length = ps.length)
    (hbody : ∀ (cdv : Value) (A : Around) (outer : List Env) (s : Shared) (H : Hp) (vs : List V) (Q : VK) (E : XK), Room k (A.deeper (envOfC qual (defScope st) s.heap.objs.size f cdv)) → sp vs H Q E →
      ∃ t, PSs (cxOf CX0 P w K mg base N qual (defScope st) f cdv A outer s H E).nox (defBody st) t ∧ t { nx := fun _ H' => Q .non H', rt := Q } (start N vs) H) : FnOk P w K mg base CX0 (k + 1) f fd ps sp :=
  F.ok S len fun cdv A outer s H vs Q E hr hsp => by
    obtain ⟨t, h, q⟩ := hbody cdv A outer s H vs Q E hr hsp
    exact ⟨t, h.nox, q⟩
end
end PK

set_option Elab.async false
set_option linter.all false
set_option maxRecDepth 100000
set_option maxHeartbeats 2000000
/-! Lists, tuples and dicts, one in another, that are equal; an own class's ==, whatever it answers; calls with names. -/
namespace PK
open PySem PySem.Spec PyProof.Rows L2
def EqC (K : PySem.W.Frag) (H : Hp) (E : V → V → Prop) (x y : V) : Prop :=
  (∃ a b xs ys, x = .ref a ∧ y = .ref b ∧ SqL K H a xs ∧ SqL K H b ys ∧ Paired E xs ys) ∨
  (∃ a b xs ys, x = .ref a ∧ y = .ref b ∧ SqT K H a xs ∧ SqT K H b ys ∧ Paired E xs ys) ∨
  (∃ a b ks ls, x = .ref a ∧ y = .ref b ∧ H a = some (.dK ks) ∧ H b = some (.dK ls) ∧ Paired (fun p q => p.1 = q.1 ∧ E p.2 q.2) ks ls)
/-- alike, not deeper than n -/
def EqW (K : PySem.W.Frag) (H : Hp) : Nat → V → V → Prop
  | 0 => fun x y => x = y ∧ flatB x = true
  | n + 1 => fun x y => (x = y ∧ flatB x = true) ∨ EqC K H (EqW K H n) x y
theorem EqW.flat {K : PySem.W.Frag} {H : Hp} {x : V} (h : flatB x = true) : ∀ n, EqW K H n x x
  | 0 => ⟨rfl, h⟩
  | _ + 1 => .inl ⟨rfl, h⟩
abbrev Like (P : Program) (w : World) (s : Shared) (n : Nat) (E : V → V → Prop) : Prop := ∀ x y v u, E x y → RelV x v → RelV y u → PySem.W.EqTree P w s n v u true
theorem likes {P : Program} {w : World} {s : Shared} {n : Nat} {E : V → V → Prop} (ih : Like P w s n E) {xs ys : List V} (hp : Paired E xs ys) :
    ∀ {us ws : List Value}, Vals xs us → Vals ys ws → ∀ j (h1 : j < us.length) (h2 : j < ws.length), PySem.W.EqTree P w s n us[j] ws[j] true := by
  induction hp with
  | nil =>
    intro us ws r1 r2 j h1 h2
    cases r1
    exact absurd h1 (Nat.not_lt_zero j)
  | cons h _ k =>
    intro us ws r1 r2 j h1 h2
    cases r1 with
    | cons a1 b1 =>
      cases r2 with
      | cons a2 b2 =>
        cases j with
        | zero => exact ih _ _ _ _ h a1 a2
        | succ j => exact k b1 b2 j (Nat.lt_of_succ_lt_succ h1) (Nat.lt_of_succ_lt_succ h2)
theorem kv_of {ks : List (Key × V)} {va : List (Key × Value)} (r : KV ks va) : ∀ {k : Key} {v : Value}, (k, v) ∈ va → ∃ x, (k, x) ∈ ks ∧ RelV x v := by
  unfold KV at r
  induction r with
  | nil =>
    intro k v h
    cases h
  | @cons p q ps qs h t ih =>
    intro k v hm
    rcases List.mem_cons.mp hm with e | hm
    · subst e
      obtain ⟨h1, h2⟩ := h
      exact ⟨p.2, by rw [← show p.1 = k from h1]; exact List.mem_cons_self, h2⟩
    · obtain ⟨x, h1, h2⟩ := ih hm
      exact ⟨x, List.mem_cons_of_mem _ h1, h2⟩
theorem val_pr {E : V → V → Prop} {ks ls : List (Key × V)} (h : Paired (fun p q => p.1 = q.1 ∧ E p.2 q.2) ks ls) : (ls.map (·.1)).Nodup → ∀ p ∈ ks, ∃ u, valV ls p.1 = some u ∧ E p.2 u := by
  induction h with
  | nil =>
    intro _ p hp
    cases hp
  | @cons p q ps qs hd t ih =>
    intro nd x hx
    rw [List.map_cons, List.nodup_cons] at nd
    rcases List.mem_cons.mp hx with e | hx
    · subst e
      exact ⟨q.2, valV_pos hd.1.symm, hd.2⟩
    · obtain ⟨u, h1, h2⟩ := ih nd.2 x hx
      refine ⟨u, ?_, h2⟩
      rw [valV_neg fun e => ?_]
      · exact h1
      · have m : x.1 ∈ qs.map (·.1) := by
          have z : ∀ {α β : Type} {F : α → β → Prop} {as : List α} {bs : List β}, Paired F as bs → ∀ a ∈ as, ∃ b ∈ bs, F a b := by
            intro α β F as bs h
            induction h with
            | nil => intro a ha; cases ha
            | cons f _ k =>
              intro a ha
              rcases List.mem_cons.mp ha with e | ha
              · exact ⟨_, List.mem_cons_self, e ▸ f⟩
              · obtain ⟨b, hb, hf⟩ := k a ha
                exact ⟨b, List.mem_cons_of_mem _ hb, hf⟩
          obtain ⟨b, hb, hf⟩ := z t x hx
          rw [hf.1]
          exact List.mem_map.mpr ⟨b, hb, rfl⟩
        exact nd.1 (by rw [e]; exact m)
theorem pr_vals {P : Program} {w : World} {h : Heap} {a : Addr} {E : V → V → Prop} {ks ls : List (Key × V)} {vb : List (Key × Value)} (rb : KV ls vb) (db : h.DictOf (mixKind P w) a vb) (hp : Paired (fun p q => p.1 = q.1 ∧ E p.2 q.2) ks ls) :
    ks.length = ls.length ∧ ∀ p ∈ ks, ∃ u, valV ls p.1 = some u ∧ E p.2 u := by
  obtain ⟨_, _, _, _, _, _, _, _, nd⟩ := db
  exact ⟨hp.length, val_pr hp (by rw [rb.keys]; exact nd)⟩
section
variable {X : Cx} {pins : List (Addr × Obj)} {σ : L2.St} {H : Hp} {s : Shared}
theorem like_dict {n : Nat} {E : V → V → Prop} (ih : Like X.prog X.w s n E) {ks ls : List (Key × V)} {va vb : List (Key × Value)} (ra : KV ks va) (rb : KV ls vb) (hp : ∀ p ∈ ks, ∃ u, valV ls p.1 = some u ∧ E p.2 u) :
    ∀ k v y, (k, v) ∈ va → valueAt vb k = some y → PySem.W.EqTree X.prog X.w s n v y true := fun k v y hm hv => by
  obtain ⟨x, h1, h2⟩ := kv_of ra hm
  obtain ⟨u, e, f⟩ := hp _ h1
  have rr : RelO (some u) (valueAt vb k) := by rw [← e]; exact rb.val k
  obtain ⟨z, hz, rz⟩ := rr.some_of
  rw [hv] at hz
  cases hz
  exact ih _ _ _ _ f h2 rz
theorem dict_all {E : V → V → Prop} {ks ls : List (Key × V)} {va vb : List (Key × Value)} (ra : KV ks va) (rb : KV ls vb) (hl : ks.length = ls.length) (hp : ∀ p ∈ ks, ∃ u, valV ls p.1 = some u ∧ E p.2 u) :
    (va.length == vb.length && va.all fun p => (valueAt vb p.1).isSome && true) = true := by
  have e : va.length = vb.length := by rw [← ra.length, ← rb.length]; exact hl
  rw [e]
  simp only [beq_self_eq_true, Bool.true_and, Bool.and_true, List.all_eq_true]
  rintro ⟨k, v⟩ hm
  obtain ⟨x, h1, h2⟩ := kv_of ra hm
  obtain ⟨u, e, f⟩ := hp _ h1
  have rr : RelO (some u) (valueAt vb k) := by rw [← e]; exact rb.val k
  obtain ⟨z, hz, rz⟩ := rr.some_of
  show (valueAt vb k).isSome = true
  rw [hz]
  rfl
theorem all_one {α : Type} (l : List α) : (l.all fun _ => true) = true := List.all_eq_true.mpr fun _ _ => rfl
theorem eqC_tree (I : Inv X pins σ H s) {n : Nat} {E : V → V → Prop} (ih : Like X.prog X.w s n E) : Like X.prog X.w s (n + 1) (EqC X.K H E) := fun x y v u h rx ry => by
  rcases h with ⟨a, b, xs, ys, rfl, rfl, ha, hb, hp⟩ | ⟨a, b, xs, ys, rfl, rfl, ha, hb, hp⟩ | ⟨a, b, ks, ls, rfl, rfl, ha, hb, hpp⟩
  · cases (show v = Value.ref a from rx)
    cases (show u = Value.ref b from ry)
    by_cases e : a = b
    · subst e
      exact .same
    obtain ⟨us, r1, p1, _⟩ := I.list ha
    obtain ⟨ws, r2, p2, _⟩ := I.list hb
    have hsz : us.toArray.size = ws.toArray.size := by
      rw [List.size_toArray, List.size_toArray, ← r1.length, ← r2.length]
      exact Paired.length hp
    have t := PySem.W.EqTree.lists (e := fun _ => true) e p1.isList p2.isList hsz fun j h1 h2 => by
      have k := likes ih hp r1 r2 j (by simpa using h1) (by simpa using h2)
      simpa using k
    rw [all_one] at t
    exact t
  · cases (show v = Value.ref a from rx)
    cases (show u = Value.ref b from ry)
    by_cases e : a = b
    · subst e
      exact .same
    obtain ⟨us, r1, p1, _⟩ := I.tuple ha
    obtain ⟨ws, r2, p2, _⟩ := I.tuple hb
    have hsz : us.toArray.size = ws.toArray.size := by
      rw [List.size_toArray, List.size_toArray, ← r1.length, ← r2.length]
      exact Paired.length hp
    have t := PySem.W.EqTree.tuples (e := fun _ => true) e p1 p2 fun j h1 h2 => by
      have k := likes ih hp r1 r2 j (by simpa using h1) (by simpa using h2)
      simpa using k
    rw [all_one, hsz] at t
    simpa using t
  · cases (show v = Value.ref a from rx)
    cases (show u = Value.ref b from ry)
    by_cases e : a = b
    · subst e
      exact .same
    obtain ⟨_, ya, va, ra, da⟩ := dk_of I.hok ha
    obtain ⟨_, yb, vb, rb, db⟩ := dk_of I.hok hb
    obtain ⟨hl, hp⟩ := pr_vals rb db hpp
    have t := PySem.W.EqTree.dicts (e := fun _ => true) e ya yb da db (like_dict ih ra rb hp)
    rw [dict_all ra rb hl hp] at t
    exact t
theorem eqW_tree (I : Inv X pins σ H s) : ∀ n, Like X.prog X.w s n (EqW X.K H n)
  | 0, x, y, v, u, h, rx, ry => by
    obtain ⟨rfl, f⟩ := h
    exact .leaf fun A _ => eqAt_same rx ry f
  | n + 1, x, y, v, u, h, rx, ry => by
    rcases h with ⟨rfl, f⟩ | h
    · exact .leaf fun A _ => eqAt_same rx ry f
    · exact eqC_tree I (eqW_tree I n) x y v u h rx ry
end
def rEqW (K : PySem.W.Frag) : R2 := fun x y H Q => ∃ n, n ≤ 60 ∧ EqC K H (EqW K H n) x y ∧ Q (.bl true) H
theorem op_eqW {X : Cx} {K : PySem.W.Frag} (hu : X.A.units + 64 < cLine) (hK : X.K = K := by rfl) : OpR X (compareOp .Eq) (rEqW K) := by
  subst hK
  intro pins s σ H x y v u Q I rx ry h
  obtain ⟨n, hn, h, q⟩ := h
  have ih := eqW_tree I n
  have fin : EP X pins σ Q (.bool true) s := ⟨.bl true, H, I, rfl, q⟩
  rcases h with ⟨a, b, xs, ys, rfl, rfl, ha, hb, hp⟩ | ⟨a, b, xs, ys, rfl, rfl, ha, hb, hp⟩ | ⟨a, b, ks, ls, rfl, rfl, ha, hb, hpp⟩
  · cases (show v = Value.ref a from rx)
    cases (show u = Value.ref b from ry)
    obtain ⟨us, r1, p1, _⟩ := I.list ha
    obtain ⟨ws, r2, p2, _⟩ := I.list hb
    have hsz : us.toArray.size = ws.toArray.size := by
      rw [List.size_toArray, List.size_toArray, ← r1.length, ← r2.length]
      exact Paired.length hp
    refine PySem.W.eq_listsT (n := n) (e := fun _ => true) p1.isList p2.isList hsz (fun j h1 h2 => ?_) (by omega) ?_
    · have k := likes ih hp r1 r2 j (by simpa using h1) (by simpa using h2)
      simpa using k
    · rw [all_one]
      exact fin
  · cases (show v = Value.ref a from rx)
    cases (show u = Value.ref b from ry)
    obtain ⟨us, r1, p1, _⟩ := I.tuple ha
    obtain ⟨ws, r2, p2, _⟩ := I.tuple hb
    have hsz : us.toArray.size = ws.toArray.size := by
      rw [List.size_toArray, List.size_toArray, ← r1.length, ← r2.length]
      exact Paired.length hp
    refine PySem.W.eq_tuplesT (n := n) (e := fun _ => true) p1 p2 (fun j h1 h2 => ?_) (by omega) ?_
    · have k := likes ih hp r1 r2 j (by simpa using h1) (by simpa using h2)
      simpa using k
    · rw [all_one, hsz]
      simpa using fin
  · cases (show v = Value.ref a from rx)
    cases (show u = Value.ref b from ry)
    obtain ⟨_, ya, va, ra, da⟩ := dk_of I.hok ha
    obtain ⟨_, yb, vb, rb, db⟩ := dk_of I.hok hb
    obtain ⟨hl, hp⟩ := pr_vals rb db hpp
    refine PySem.W.eq_dictsT (n := n) (e := fun _ => true) ya yb da db (like_dict ih ra rb hp) (by omega) ?_
    rw [dict_all ra rb hl hp]
    exact fin
/-- == by an own __eq__ that keeps a promise -/
def rEqO (C : Addr) (sp : Sp) : R2 := fun x y H Q => ∃ a b dx dy fs gs, x = .ref a ∧ y = .ref b ∧ H a = some (.ins C dx fs) ∧ H b = some (.ins C dy gs) ∧ sp [.ref a, .ref b] H (fun v H' => ∃ k, v = .bl k ∧ Q (.bl k) H') E0
theorem op_eqO {X : Cx} {C : Addr} {n : Nat} {ps : List Str} {sp : Sp} (D : HasM X.prog X.w X.K X.mg X.base C n "__eq__" ps sp) (hr : Room n X.A) : OpR X (compareOp .Eq) (rEqO C sp) := by
  obtain ⟨f, fd, F, me, hb⟩ := D.ex
  intro pins s σ H x y v u Q I rx ry h
  obtain ⟨a, b, dx, dy, fs, gs, rfl, rfl, ha, hb', hsp⟩ := h
  cases (show v = Value.ref a from rx)
  cases (show u = Value.ref b from ry)
  obtain ⟨mA, J, _⟩ := ins_get I.hok ha
  obtain ⟨mB, J', _⟩ := ins_get I.hok hb'
  obtain ⟨od, J, _⟩ := J.look
  obtain ⟨od', J', _⟩ := J'.look
  obtain ⟨m, hF⟩ := I.fr
  refine PySem.W.cmp_K (op := .Eq) (tb := .ref C) hr.units0 hF I.ok.mod.kin J J'.type (by simp [PySem.W.notFirst]) me.at_ me.fn ?_
  have hl := F.len _ _ _ _ hsp
  have r2 : Vals [V.ref a, V.ref b] [Value.ref a, Value.ref b] := .cons rfl (.cons rfl .nil)
  refine wpAny_call (codeAny_mono (F.run X.A X.stack s H ⟨[.ref a, .ref b], []⟩ [.ref a, .ref b] [.ref a, .ref b] _ E0 hr I.env0 (by
    have := hb s [.ref a, .ref b] I.kIn (by simpa using hl)
    simpa using this) r2 hsp) fun r s' hq => ?_)
  cases r with
  | error e => exact pass0 pins σ H s e s' I hq
  | ok fl =>
    cases fl with
    | ret w =>
      obtain ⟨z, H', I', rz, k, ez, q⟩ := I.after hq
      subst ez
      cases (show w = Value.bool k from rz)
      exact ⟨.bl k, H', I', rfl, q⟩
    | next => exact False.elim hq
    | brk => exact False.elim hq
    | cont => exact False.elim hq
end PK

set_option Elab.async false
set_option linter.all false
set_option maxRecDepth 100000
set_option maxHeartbeats 4000000
/-! a tuple, so many times: none, once, more -/
namespace L2
open PySem PySem.Spec PyProof.Rows
theorem tup_once (l : Addr) (items : Array Value) (n : Nat) (dd : Option Addr) (sl : Array (Option Value)) (u : Tok) :
    Meets (Builtin.«tuple.__mul__» ⟨[.ref l, .int 1 u], []⟩) (fun _ R s => s.heap.get? l = some { cls := .type "tuple", dict := dd, data := .seq items n, slots := sl } ∧
      R (.ok (.ret (Value.ref l))) s) :=
  .of_wp fun prog w A R s h => by
    obtain ⟨hp, g, d, tk, os⟩ := s
    obtain ⟨hl, h⟩ := h
    have f1 := AutoSeq1.idx_int
    have c0 : (decide ((1 : Int) < -(2 ^ 63)) || decide ((1 : Int) ≥ 2 ^ 63)) = false := by decide
    have c1 : (items.isEmpty || (1 : Int) == 1) = true := by simp
    wp_walk using wpAny_loadPart' hl
    exact ⟨_, rfl, h⟩
theorem tup_nought (l : Addr) (items : Array Value) (n : Nat) (dd : Option Addr) (sl : Array (Option Value)) (u : Tok) (c1 : (items.isEmpty || (0 : Int) == 1) = false) :
    Meets (Builtin.«tuple.__mul__» ⟨[.ref l, .int 0 u], []⟩) (fun _ R s => s.heap.get? l = some { cls := .type "tuple", dict := dd, data := .seq items n, slots := sl } ∧
      R (.ok (.ret (Value.ref s.heap.objs.size))) { s with heap := s.heap.push { cls := Value.type "tuple", data := Data.seq #[] }, toks := s.toks }) :=
  .of_wp fun prog w A R s h => by
    obtain ⟨hp, g, d, tk, os⟩ := s
    obtain ⟨hl, h⟩ := h
    have f1 := AutoSeq1.idx_int
    wp_walk using wpAny_loadPart' hl
    repeat (first
      | (refine wpAny_ite_false (decide_eq_false (by rw [c1]; exact Bool.false_ne_true)) ?_; wp_walk using wpAny_loadPart' hl))
    exact ⟨_, rfl, h⟩
/-- t * i, i not below 0 -/
def rRepA (K : PySem.W.Frag) : R2 := fun x y H Q => ∃ l k xs, x = .ref l ∧ y = .int k ∧ SqT K H l xs ∧ xs ≠ [] ∧ 0 ≤ k ∧ k ≤ 1000 ∧ xs.length ≤ 1000 ∧
  (k = 1 → Q (.ref l) H) ∧ (k ≠ 1 → ∀ p, H p = none → Q (.ref p) (upd H p (.tup (List.replicate k.toNat xs).flatten)))
theorem op_repA {X : Cx} : OpR X (binaryOp .Mult) (rRepA X.K) := by
  intro pins s σ H x y v u Q I rx ry h
  obtain ⟨l, k, xs, rfl, rfl, hT, hne, h1, h2, hz, q1, q2⟩ := h
  by_cases k2 : 2 ≤ k
  · exact op_repT pins s σ H _ _ v u Q I rx ry ⟨l, k, xs, rfl, rfl, hT, hne, k2, h2, hz, q2 (by omega)⟩
  · cases rx
    obtain ⟨t, rfl⟩ := ry
    obtain ⟨its, r, ⟨⟨cls, dd, data, sl⟩, ho, hc, n, hd⟩, hs⟩ := I.tuple hT
    simp only at hc hd
    subst hc hd
    have hle : its.length = xs.length := r.length.symm
    have hn : its ≠ [] := fun e => hne (by
      rw [e] at hle
      exact List.eq_nil_of_length_eq_zero hle.symm)
    have hi : its.toArray.isEmpty = false := by
      cases its with
      | nil => exact absurd rfl hn
      | cons a b => rfl
    obtain rfl | rfl : k = 0 ∨ k = 1 := by omega
    · refine wpAny_binaryOp_repeat_ref (T := "tuple") (U := "int") (by decide) ⟨_, ho, rfl⟩ (fun s' => typeIs_int s' 0 t) noFill_tuple_mul F.fills_int_mul F.slot_int_rmul repeat_tuple F.slot_int_index.lookup
        (call_meets F.slot_int_rmul (typeIs_int s 0 t) F.entry_int_rmul (F.args_int_rmul_2 _ _) (int_rmul_tuple 0 t l its.toArray n dd sl)
          ⟨ho, rfl, ⟨_, ho, rfl⟩, call_meets F.slot_tuple_mul ⟨_, ho, rfl⟩ F.entry_tuple_mul (F.args_tuple_mul_2 _ _) (tup_nought l its.toArray n dd sl t (by rw [hi]; rfl)) ⟨ho, ?_⟩⟩)
      refine ⟨.ref s.heap.objs.size, _, I.laid (t' := s.toks) (o := .tup []) (fun b ob q => Heap.get?_push_of_some _ q) (Nat.le_refl _) ?_, rfl, q2 (by decide) _ (I.hok.fresh (Nat.le_refl _))⟩
      exact ⟨Nat.zero_le _, [], .nil, IsTup.new _ _⟩
    · refine wpAny_binaryOp_repeat_ref (T := "tuple") (U := "int") (by decide) ⟨_, ho, rfl⟩ (fun s' => typeIs_int s' 1 t) noFill_tuple_mul F.fills_int_mul F.slot_int_rmul repeat_tuple F.slot_int_index.lookup
        (call_meets F.slot_int_rmul (typeIs_int s 1 t) F.entry_int_rmul (F.args_int_rmul_2 _ _) (int_rmul_tuple 1 t l its.toArray n dd sl)
          ⟨ho, rfl, ⟨_, ho, rfl⟩, call_meets F.slot_tuple_mul ⟨_, ho, rfl⟩ F.entry_tuple_mul (F.args_tuple_mul_2 _ _) (tup_once l its.toArray n dd sl t) ⟨ho, ?_⟩⟩)
      exact ⟨.ref l, H, I, rfl, q1 rfl⟩
end L2
namespace PK
open PySem L2
theorem op_repAK {X : Cx} {K : PySem.W.Frag} (hK : X.K = K := by rfl) : OpR X (binaryOp .Mult) (rRepA K) := by subst hK; exact op_repA
theorem WK.w_repA {K : PySem.W.Frag} {H : Hp} {Q : VK} {l : Addr} {k : Int} {xs : List V} (h : H l = some (.tup xs)) (hne : xs ≠ []) (h0 : 0 ≤ k) (h1 : k ≤ 1000) (h2 : xs.length ≤ 1000)
    (q : ∀ p H', Gr [] H H' → H' p = some (.tup (List.replicate k.toNat xs).flatten) → Q (.ref p) H') : rRepA K (.ref l) (.int k) H Q := by
  refine ⟨l, k, xs, rfl, rfl, SqT.of h, hne, h0, h1, h2, fun e => ?_, fun _ p np => q p _ (Gr.new np) upd_same⟩
  subst e
  exact q l H (Gr.refl _ _) (by rw [h]; simp)
end PK

set_option Elab.async false
set_option linter.all false
set_option maxRecDepth 100000
set_option maxHeartbeats 2000000
/-! sorted: a list of pairs, each of a text or a whole number and a text or a whole number. -/
namespace PK
open PySem L2 PyProof.Rows
def ltK : Key → Key → Bool
  | .inl i, .inl j => decide (i < j)
  | .inr a, .inr b => ltS a b
  | .inl _, .inr _ => true
  | .inr _, .inl _ => false
theorem ltK_self : ∀ a : Key, ltK a a = false
  | .inl _ => decide_eq_false (Int.lt_irrefl _)
  | .inr _ => ltS_self _
theorem ltK_asym : ∀ {a b : Key}, ltK a b = true → ltK b a = false
  | .inl _, .inl _, h => decide_eq_false (Int.lt_asymm (of_decide_eq_true h))
  | .inr _, .inr _, h => ltS_asym h
  | .inl _, .inr _, _ => rfl
  | .inr _, .inl _, h => by cases h
theorem ltK_tr : ∀ {a b c : Key}, ltK b a = false → ltK c b = false → ltK c a = false
  | .inl i, .inl j, .inl k, h1, h2 => by
    have a := of_decide_eq_false h1
    have b := of_decide_eq_false h2
    exact decide_eq_false (by omega)
  | .inr _, .inr _, .inr _, h1, h2 => ltS_tr h1 h2
  | .inl _, _, .inr _, _, _ => rfl
  | .inl _, .inr _, .inl _, h1, h2 => by cases h2
  | .inr _, .inl _, _, h1, _ => by cases h1
  | .inr _, .inr _, .inl _, _, h2 => by cases h2
theorem ltK_eq : ∀ {a b : Key}, ltK a b = false → ltK b a = false → a = b
  | .inl i, .inl j, h1, h2 => by
    have a := of_decide_eq_false h1
    have b := of_decide_eq_false h2
    exact congrArg Sum.inl (by omega)
  | .inr _, .inr _, h1, h2 => congrArg Sum.inr (ltS_eq h1 h2)
  | .inl _, .inr _, h1, _ => by cases h1
  | .inr _, .inl _, _, h2 => by cases h2
def lexK (p q : Key × Key) : Bool := if p.1 = q.1 then ltK p.2 q.2 else ltK p.1 q.1
theorem lexK_asym {p q : Key × Key} (h : lexK p q = true) : lexK q p = false := by
  unfold lexK at h ⊢
  by_cases e : p.1 = q.1
  · rw [if_pos e] at h
    rw [if_pos e.symm]
    exact ltK_asym h
  · rw [if_neg e] at h
    rw [if_neg fun z => e z.symm]
    exact ltK_asym h
theorem lexK_tr {p q r : Key × Key} (h1 : lexK q p = false) (h2 : lexK r q = false) : lexK r p = false := by
  unfold lexK at h1 h2 ⊢
  by_cases e1 : q.1 = p.1
  · rw [if_pos e1] at h1
    by_cases e2 : r.1 = q.1
    · rw [if_pos e2] at h2
      rw [if_pos (e2.trans e1)]
      exact ltK_tr h1 h2
    · rw [if_neg e2] at h2
      rw [if_neg (fun z => e2 (z.trans e1.symm)), ← e1]
      exact h2
  · rw [if_neg e1] at h1
    by_cases e2 : r.1 = q.1
    · rw [if_neg (fun z => e1 (e2.symm.trans z)), e2]
      exact h1
    · rw [if_neg e2] at h2
      by_cases e3 : r.1 = p.1
      · rw [e3] at h2
        exact absurd (ltK_eq h1 h2) e1
      · rw [if_neg e3]
        exact ltK_tr h1 h2
theorem lexK_eq {p q : Key × Key} (h1 : lexK p q = false) (h2 : lexK q p = false) : p = q := by
  unfold lexK at h1 h2
  by_cases e : p.1 = q.1
  · rw [if_pos e] at h1
    rw [if_pos e.symm] at h2
    exact Prod.ext e (ltK_eq h1 h2)
  · rw [if_neg e] at h1
    rw [if_neg fun z => e z.symm] at h2
    exact absurd (ltK_eq h1 h2) e
theorem swoK {α : Type} (k : α → Key × Key) : SrtO.Swo fun v u => lexK (k v) (k u) := ⟨fun _ _ h => lexK_asym h, fun _ _ _ h1 h2 => lexK_tr h1 h2⟩
def isN : Key → Bool
  | .inl _ => true
  | .inr _ => false
/-- a value that stands for a text or a number -/
def IsK (v : Value) : Key → Prop
  | .inl i => ∃ t, v = .int i t
  | .inr a => ∃ t, v = .str a t
def IsPK (h : Heap) (v : Value) (x : Key × Key) : Prop := ∃ (a : Addr) (u w : Value), v = .ref a ∧ IsTup h a #[u, w] ∧ IsK u x.1 ∧ IsK w x.2
theorem IsPK.keep {h h' : Heap} {v : Value} {x : Key × Key} (p : IsPK h v x) (k : ∀ b o, h.get? b = some o → o.cls = .type "tuple" → h'.get? b = some o) : IsPK h' v x := by
  obtain ⟨a, u, w, rfl, ⟨o, ho, hc, r⟩, q⟩ := p
  exact ⟨a, u, w, rfl, ⟨o, k _ _ ho hc, hc, r⟩, q⟩
section
variable {prog : Program} {w : World} {A : Around} {E : Value → Shared → Prop} {s : Shared}
theorem eqK_go {b : Bool} {fin : Bool} {Q : Bool → Shared → Prop} {x y : Key} {u v : Value} {r : List (Value × Value)} {i : Nat} (hx : IsK u x) (hy : IsK v y) (hn : isN x = isN y)
    (h1 : x = y → PySem.W.KatLex prog w A b fin Q r (i + 1) s) (h2 : x ≠ y → Q (ltK x y) s) : PySem.W.KatLex prog w A b fin Q ((u, v) :: r) i s := by
  cases x with
  | inl a =>
    cases y with
    | inr c => cases hn
    | inl c =>
      obtain ⟨t, rfl⟩ := hx
      obtain ⟨t', rfl⟩ := hy
      refine PySem.W.kat_cons (SeqAt.EqAt.int_int a t c t' prog w _ _ ?_)
      refine PySem.W.kat_go (fun e => PySem.W.kat_yes (h1 (congrArg Sum.inl (by simpa using e)))) (fun e => PySem.W.kat_no ?_)
      have q := h2 (fun z => by cases z; simp at e)
      cases hb : (b && i == 0) with
      | true => exact oneLt_int q
      | false => exact PySem.W.kat_one _ _ (PyProof.Rows.lt_int q)
  | inr a =>
    cases y with
    | inl c => cases hn
    | inr c =>
      obtain ⟨t, rfl⟩ := hx
      obtain ⟨t', rfl⟩ := hy
      refine PySem.W.kat_cons (SeqAt.EqAt.str_str a t c t' prog w _ _ ?_)
      refine PySem.W.kat_go (fun e => PySem.W.kat_yes (h1 (congrArg Sum.inr (by simpa using e)))) (fun e => PySem.W.kat_no ?_)
      have q := h2 (fun z => by cases z; simp at e)
      cases hb : (b && i == 0) with
      | true => exact oneLt_str q
      | false => exact PySem.W.kat_one _ _ (PyProof.Rows.lt_str q)
theorem pk_cmp {vs : List Value} {k : Value → Key × Key} {b1 b2 : Bool} (hp : ∀ v ∈ vs, IsPK s.heap v (k v) ∧ isN (k v).1 = b1 ∧ isN (k v).2 = b2) :
    SrtO.Cmp prog w A s (tuples' true) (fun p => p.1 ∈ vs) (SrtO.lt2 fun v u => lexK (k v) (k u)) := by
  intro p q hm hm'
  show wpAny (model prog w) A (keyLt' (tuples' true) p.1 q.1) (fun r s' => s' = s ∧ r = lexK (k p.1) (k q.1)) (fun _ _ => False) s
  obtain ⟨⟨a, u, v, e, ⟨o, ho, hc, n, hd⟩, r1, r2⟩, n1, n2⟩ := hp _ hm
  obtain ⟨⟨a', u', v', e', ⟨o', ho', hc', n', hd'⟩, r1', r2'⟩, n1', n2'⟩ := hp _ hm'
  generalize k p.1 = x at *
  generalize k q.1 = y at *
  rw [e, e']
  refine PySem.W.kat_lt ho hd ho' hd' ?_
  show PySem.W.KatLex prog w A true (decide (2 < 2)) _ [(u, u'), (v, v')] 0 s
  refine eqK_go r1 r1' (n1.trans n1'.symm) (fun e1 => ?_) (fun e1 => ⟨rfl, by unfold lexK; rw [if_neg e1]⟩)
  refine eqK_go r2 r2' (n2.trans n2'.symm) (fun e2 => PySem.W.kat_nil ⟨rfl, ?_⟩) (fun e2 => ⟨rfl, by unfold lexK; rw [if_pos e1]⟩)
  unfold lexK
  rw [if_pos e1, e2, ltK_self]
  rfl
theorem pk_firsts {h : Heap} {k : Value → Key × Key} {b1 b2 : Bool} : ∀ vs : List Value, (∀ v ∈ vs, IsPK h v (k v) ∧ isN (k v).1 = b1 ∧ isN (k v).2 = b2) → ∃ fs : List Value, PySem.W.KatTups h vs fs ∧ fs.length = vs.length ∧ ∀ f ∈ fs, ∃ x, IsK f x ∧ isN x = b1
  | [], _ => ⟨[], PySem.W.KatTups.nil, rfl, fun _ q => nomatch q⟩
  | v :: vs, hp => by
    obtain ⟨fs, h1, h2, h3⟩ := pk_firsts vs fun u q => hp u (List.mem_cons_of_mem _ q)
    obtain ⟨⟨a, u, w, rfl, ⟨o, ho, hc, n, hd⟩, r1, r2⟩, n1, n2⟩ := hp v List.mem_cons_self
    refine ⟨u :: fs, PySem.W.KatTups.cons ho hc hd rfl h1, by rw [List.length_cons, List.length_cons, h2], fun f q => ?_⟩
    rcases List.mem_cons.mp q with rfl | q
    · exact ⟨_, r1, n1⟩
    · exact h3 f q
theorem pk_sortable {a : Addr} {vs : List Value} {k : Value → Key × Key} {b1 b2 : Bool} (h2 : 2 ≤ vs.length) (hp : ∀ v ∈ vs, IsPK s.heap v (k v) ∧ isN (k v).1 = b1 ∧ isN (k v).2 = b2) (ha : ∀ o, s.heap.get? a = some o → o.cls ≠ .type "tuple") :
    SrtO.SortableO prog w A s a vs fun v u => lexK (k v) (k u) := by
  intro h' keep
  have hp' : ∀ v ∈ vs, IsPK h' v (k v) ∧ isN (k v).1 = b1 ∧ isN (k v).2 = b2 := fun v q => by
    obtain ⟨y, z⟩ := hp v q
    exact ⟨y.keep fun b o e c => keep b o (fun i => by subst i; exact ha o e c) e, z⟩
  obtain ⟨fs, k1, k2, k3⟩ := pk_firsts vs hp'
  refine ⟨tuples' true, fun Q E hq => ?_, pk_cmp hp'⟩
  cases b1 with
  | true =>
    refine PySem.W.kat_kind (T := .type "int") k1 (by omega) (fun f q => ?_) (by rfl) ?_
    · obtain ⟨x, hx, nx⟩ := k3 f q
      cases x with
      | inr _ => cases nx
      | inl x =>
        obtain ⟨t, rfl⟩ := hx
        exact PySem.W.Looks.now
    · have e : (Value.type "int" != Value.type "tuple") = true := by first | decide +kernel | rfl | decide
      rw [e]
      exact hq
  | false =>
    refine PySem.W.kat_kind (T := .type "str") k1 (by omega) (fun f q => ?_) (by rfl) ?_
    · obtain ⟨x, hx, nx⟩ := k3 f q
      cases x with
      | inl _ => cases nx
      | inr x =>
        obtain ⟨t, rfl⟩ := hx
        exact PySem.W.Looks.now
    · have e : (Value.type "str" != Value.type "tuple") = true := by first | decide +kernel | rfl | decide
      rw [e]
      exact hq
theorem sorted_pk {l : Addr} {vs : List Value} {k : Value → Key × Key} {b1 b2 : Bool} {Q : Value → Shared → Prop} (hl : s.heap.IsList l vs.toArray) (hz : vs.length ≤ sizeLine) (hp : ∀ v ∈ vs, IsPK s.heap v (k v) ∧ isN (k v).1 = b1 ∧ isN (k v).2 = b2)
    (h : ∀ (h' : Heap) (d : Addr) (out : List Value), SrtO.Srtd (fun v u => lexK (k v) (k u)) out → SrtO.Stb (fun v u => lexK (k v) (k u)) out vs → (∀ b o, s.heap.get? b = some o → h'.get? b = some o) → s.heap.objs.size ≤ d → (∃ n, h'.get? d = some (seqObj "list" out.toArray n)) → Q (.ref d) { s with heap := h' }) :
    wpAny (model prog w) A (call (.builtin "sorted") [.ref l]) Q E s := by
  refine SrtO.sorted_ord (swoK k) hl hz (fun h2 h₁ a ha kk => ?_) fun out hs hb => ?_
  · refine pk_sortable (s := { s with heap := h₁ }) (by omega) (fun v hm => ⟨(hp v hm).1.keep fun b o e _ => (kk b o e).2, (hp v hm).2⟩) fun o e => ?_
    have e' : some o = some (seqObj "list" vs.toArray 0) := e.symm.trans ha
    cases e'
    intro c
    exact absurd (Value.type.inj c) (by decide)
  · exact h _ _ out hs hb (fun b o e => PyProof.Rows.sortedAll_old e) (Nat.le_succ _) (PyProof.Rows.sortedAll_at s.heap vs out.toArray)
end
/-! as a rule -/
abbrev kkV (r : Key × Key) : List V := [kV r.1, kV r.2]
def vK : V → Key
  | .int i => .inl i
  | .str a => .inr a
  | _ => .inl 0
theorem vK_kV : ∀ k : Key, vK (kV k) = k
  | .inl _ => rfl
  | .inr _ => rfl
/-- the pair at v -/
def kAt (H : Hp) : V → Key × Key
  | .ref t => match H t with
    | some (.tup [a, b]) => (vK a, vK b)
    | _ => (.inl 0, .inl 0)
  | _ => (.inl 0, .inl 0)
theorem kAt_of {H : Hp} {t : Addr} {r : Key × Key} (h : H t = some (.tup (kkV r))) : kAt H (.ref t) = r := by
  show (match H t with
    | some (.tup [a, b]) => (vK a, vK b)
    | _ => ((.inl 0, .inl 0) : Key × Key)) = r
  rw [h]
  show (vK (kV r.1), vK (kV r.2)) = r
  rw [vK_kV, vK_kV]
theorem kAt_all {H : Hp} : ∀ {xs : List V} {rs : List (Key × Key)}, Tps H xs (rs.map kkV) → xs.map (kAt H) = rs ∧ ∀ x ∈ xs, ∃ t, x = .ref t ∧ H t = some (.tup (kkV (kAt H x)))
  | [], [], .nil => ⟨rfl, fun _ q => nomatch q⟩
  | _ :: xs, r :: rs, .cons ⟨t, e, ht⟩ p => by
    obtain ⟨h1, h2⟩ := kAt_all p
    subst e
    have k := kAt_of ht
    refine ⟨by rw [List.map_cons, k, h1], fun x hx => ?_⟩
    rcases List.mem_cons.mp hx with rfl | hx
    · exact ⟨t, rfl, by rw [k]; exact ht⟩
    · exact h2 x hx
theorem kAt_tps {H : Hp} : ∀ {xs : List V}, (∀ x ∈ xs, ∃ t, x = .ref t ∧ H t = some (.tup (kkV (kAt H x)))) → Tps H xs ((xs.map (kAt H)).map kkV)
  | [], _ => .nil
  | x :: xs, h => .cons (h x List.mem_cons_self) (kAt_tps fun y hy => h y (List.mem_cons_of_mem _ hy))
def insK (e : Key × Key) : List (Key × Key) → List (Key × Key)
  | [] => [e]
  | f :: l => if lexK f e = true then f :: insK e l else e :: f :: l
def srtK (l : List (Key × Key)) : List (Key × Key) := l.foldr insK []
abbrev SrtdK (l : List (Key × Key)) : Prop := l.Pairwise fun e f => lexK f e = false
theorem insK_perm (e : Key × Key) : ∀ l : List (Key × Key), (insK e l).Perm (e :: l)
  | [] => List.Perm.refl _
  | f :: l => by
    unfold insK
    split
    · exact ((insK_perm e l).cons f).trans (List.Perm.swap ..)
    · exact List.Perm.refl _
theorem insK_srt (e : Key × Key) : ∀ {l : List (Key × Key)}, SrtdK l → SrtdK (insK e l)
  | [], _ => List.pairwise_singleton _ _
  | f :: l, h => by
    have h' := List.pairwise_cons.mp h
    unfold insK
    split
    · rename_i lt
      refine List.pairwise_cons.mpr ⟨fun g hg => ?_, insK_srt e h'.2⟩
      rcases List.mem_cons.mp ((insK_perm e l).mem_iff.mp hg) with rfl | hg
      · exact lexK_asym lt
      · exact h'.1 g hg
    · rename_i no
      have no' : lexK f e = false := by simpa using no
      refine List.pairwise_cons.mpr ⟨fun g hg => ?_, h⟩
      rcases List.mem_cons.mp hg with rfl | hg
      · exact no'
      · exact lexK_tr no' (h'.1 g hg)
theorem srtK_perm : ∀ l : List (Key × Key), (srtK l).Perm l
  | [] => List.Perm.refl _
  | e :: l => (insK_perm e (srtK l)).trans ((srtK_perm l).cons e)
theorem srtK_srt : ∀ l : List (Key × Key), SrtdK (srtK l)
  | [] => .nil
  | e :: l => insK_srt e (srtK_srt l)
theorem srtK_one {l m : List (Key × Key)} (s : SrtdK m) (p : m.Perm l) : m = srtK l :=
  List.Perm.eq_of_pairwise (le := fun x y => lexK y x = false) (fun x y _ _ h1 h2 => lexK_eq h2 h1) s (srtK_srt l) (p.trans (srtK_perm l).symm)
def rSortK (K : PySem.W.Frag) : List V → Hp → VK → Prop := fun vs H Q => ∃ (a : Addr) (xs : List V) (rs : List (Key × Key)) (b1 b2 : Bool), vs = [V.ref a] ∧ SqL K H a xs ∧ Tps H xs (rs.map kkV) ∧ (∀ r ∈ rs, isN r.1 = b1 ∧ isN r.2 = b2) ∧
  ∀ (ys : List V) (p : Addr) (H' : Hp), Gr [] H H' → H p = none → H' p = some (.lst ys) → Tps H' ys ((srtK rs).map kkV) → Q (.ref p) H'
section
variable {X : Cx}
theorem kV_isK : ∀ {k : Key} {v : Value}, RelV (kV k) v → IsK v k
  | .inl _, _, h => h
  | .inr _, _, h => h
theorem cr_sortK : CallR X (.builtin "sorted") (rSortK X.K) := by
  intro pins s σ H vs us Q I r h
  obtain ⟨a, xs, rs, b1, b2, rfl, hs, tp, hn, q⟩ := h
  obtain ⟨em, hx⟩ := kAt_all tp
  obtain ⟨its, rv, hl, hz⟩ := I.list hs
  obtain ⟨u, rfl, ru⟩ := vals1 r
  obtain rfl : u = Value.ref a := ru
  obtain ⟨e1, e2⟩ := refs_back rv fun x m => by
    obtain ⟨t, e, _⟩ := hx x m
    exact ⟨t, e⟩
  refine sorted_pk (k := fun u => kAt H (backV u)) (b1 := b1) (b2 := b2) hl.isList (by rw [← rv.length]; exact hz) (fun v hv => ?_) fun h' d out h1 h2 kp hd hn => ?_
  · obtain ⟨t, rfl⟩ := e2 v hv
    have hm : V.ref t ∈ xs := by rw [e1]; exact List.mem_map.mpr ⟨_, hv, rfl⟩
    obtain ⟨t', e, ht⟩ := hx _ hm
    cases e
    have hr : kAt H (V.ref t) ∈ rs := by rw [← em]; exact List.mem_map.mpr ⟨_, hm, rfl⟩
    refine ⟨?_, hn _ hr⟩
    show IsPK s.heap (Value.ref t) (kAt H (V.ref t))
    generalize kAt H (V.ref t) = kk at *
    obtain ⟨_, its2, r2, it⟩ := I.hok _ _ ht
    obtain ⟨u1, u2, rfl, ri, rj⟩ := vals2 r2
    exact ⟨t, u1, u2, rfl, it, kV_isK ri, kV_isK rj⟩
  · have h3 : ∀ u ∈ out, ∃ a, u = Value.ref a := fun u hu => e2 u (h2.perm.mem_iff.mp hu)
    obtain ⟨n, hn⟩ := hn
    have hp : (out.map backV).Perm xs := by rw [e1]; exact h2.perm.map _
    have hd0 := I.hok.fresh hd
    have g : Gr [] H (upd H d (.lst (out.map backV))) := Gr.new hd0
    refine ⟨.ref d, upd H d (.lst (out.map backV)), I.laid (t' := s.toks) kp hd ⟨?_, out, n, L2.vals_back h3, hn⟩, rfl, q (out.map backV) d _ g hd0 upd_same ?_⟩
    · rw [hp.length_eq]
      exact hz
    · have z : (out.map backV).map (kAt H) = srtK rs := by
        refine srtK_one ?_ ?_
        · rw [List.map_map]
          exact SrtO.srtd_map (f := fun u => kAt H (backV u)) (lt := lexK) h1
        · rw [← em]
          exact hp.map _
      rw [← z]
      exact (kAt_tps fun x hx' => hx x (hp.mem_iff.mp hx')).gr g
theorem cr_sortKK {K : PySem.W.Frag} (hK : X.K = K := by rfl) : CallR X (.builtin "sorted") (rSortK K) := by subst hK; exact cr_sortK
end
end PK

set_option Elab.async false
set_option linter.all false
set_option maxRecDepth 100000
set_option maxHeartbeats 2000000
/-! len of an own object, by its own __len__ -/
namespace PK
open PySem PySem.Spec PyProof.Rows L2
def rLenO (C : Addr) (sp : Sp) : List V → Hp → VK → Prop := fun xs H Q => ∃ a dx fs, xs = [.ref a] ∧ H a = some (.ins C dx fs) ∧ sp [.ref a] H (fun v H' => ∃ i : Int, v = .int i ∧ 0 ≤ i ∧ i < 2 ^ 63 ∧ Q (.int i) H') E0
theorem call_lenO {X : Cx} {C : Addr} {n : Nat} {ps : List Str} {sp : Sp} (D : HasM X.prog X.w X.K X.mg X.base C n "__len__" ps sp) (hr : Room (n + 1) X.A) : CallR X (.builtin "len") (rLenO C sp) := by
  obtain ⟨f, fd, F, me, hb⟩ := D.ex
  intro pins s σ H xs us Q I r h
  obtain ⟨a, dx, fs, rfl, ha, hsp⟩ := h
  obtain ⟨u, rfl, ru⟩ := vals1 r
  obtain rfl : u = Value.ref a := ru
  obtain ⟨mA, J, _⟩ := ins_get I.hok ha
  obtain ⟨od, J, _⟩ := J.look
  have hl := F.len _ _ _ _ hsp
  have r2 : Vals [V.ref a] [Value.ref a] := .cons rfl .nil
  refine Calls.call_function_entry kind_len plain_len entry_len (args_len1 _) ?_
  unfold Builtin.«len»
  refine wpAny_bind (m := oneArg "len" _) (wpAny_pure ?_)
  refine wpAny_bind (m := callSpecial? (.ref a) (PySem.Str.ofString "__len__")) (PySem.W.special_fn I.kIn J me.at_ (beq_iff_eq.mp me.fn) ?_)
  refine wpAny_call (codeAny_mono (F.run X.A.in1 X.stack s H ⟨[.ref a], []⟩ [.ref a] [.ref a] _ E0 hr.in1 I.env0.in1 (by
    have := hb s [.ref a] I.kIn (by simpa using hl)
    simpa using this) r2 hsp) fun r s' hq => ?_)
  cases r with
  | error e => exact pass0 pins σ H s e s' I hq
  | ok fl =>
    cases fl with
    | ret w =>
      obtain ⟨z, H', I', rz, i, ez, i0, i1, q⟩ := I.after hq
      subst ez
      obtain ⟨t, rfl⟩ := rz
      refine wpAny_bind (wpAny_holding (wpAny_pure ?_))
      refine wpAny_bind (wpAny_letGo ?_)
      show wpAny _ _ (if i < 0 then _ else _) _ _ _
      rw [if_neg (by omega)]
      show wpAny _ _ (if i ≥ 2 ^ 63 then _ else _) _ _ _
      rw [if_neg (by omega)]
      exact wpAny_bind (wpAny_mkInt (wpAny_pure ⟨_, rfl, .int i, H', I'.tok _, ⟨_, rfl⟩, q⟩))
    | next => exact False.elim hq
    | brk => exact False.elim hq
    | cont => exact False.elim hq
end PK

set_option Elab.async false
set_option linter.all false
set_option maxRecDepth 100000
/-! in and not in of nested data -/
namespace PK
open PySem L2
section
variable {X : Cx} {K : PySem.W.Frag}
theorem op_inDK (hu : X.A.units + 65 < cLine) (hK : X.K = K := by rfl) : OpR X (compareOp .In) (rInD K) := by subst hK; exact op_inD hu
theorem op_notInDK (hu : X.A.units + 65 < cLine) (hK : X.K = K := by rfl) : OpR X (compareOp .NotIn) (rNotInD K) := by subst hK; exact op_notInD hu
end
section
variable {K : PySem.W.Frag} {H : Hp} {Q : VK}
theorem hu65 {k : Nat} {A : Around} (r : Room k A) : A.units + 65 < cLine := by
  have := r.un
  omega
end
end PK

set_option Elab.async false
set_option linter.all false
set_option maxRecDepth 100000
/-! setdefault, pop, dict of a dict, sorted of a dict by texts: steps -/
namespace PK
open PySem L2
section
variable {td ty tx : TE} {σ : L2.St} {H : Hp} {Q : VK}
theorem w_dsetd (k : td σ H fun x H1 => ∃ a, x = .ref a ∧ IsD H1 a ∧ ty σ H1 fun y H2 => tx σ H2 fun z H3 => ∃ (kvs : List (Key × V)) (k : Key), H3 a = some (.dK kvs) ∧ y = kV k ∧ kvs.length < sizeLine ∧ (∀ v, valV kvs k = some v → Q v H3) ∧ (valV kvs k = none → Q z (upd H3 a (.dK (putK kvs k z))))) : tDSetd td ty tx σ H Q := k
theorem w_dpop2 (k : td σ H fun x H1 => ∃ a, x = .ref a ∧ IsD H1 a ∧ ty σ H1 fun y H2 => tx σ H2 fun z H3 => ∃ kvs k, H3 a = some (.dK kvs) ∧ y = kV k ∧ (∀ v, valV kvs k = some v → Q v (upd H3 a (.dK (dropK kvs k)))) ∧ (valV kvs k = none → Q z H3)) : tDPop2 td ty tx σ H Q := k
theorem w_rng2 {ta : TA} {R : It → Hp → Prop} (k : ta σ H fun vs H1 => ∃ i j : Int, vs = [.int i, .int j] ∧ (-(2 ^ 62) ≤ i ∧ i < 2 ^ 62 ∧ -(2 ^ 62) ≤ j ∧ j < 2 ^ 62) ∧ R (Itr i (j - i).toNat) H1) : iRng2 ta σ H R := k
end
end PK

namespace PK
open PySem L2
def topS (i : Nat) : Stmt := PySem.Challenge.pw_missedmarks_k07_guards_and_sweeps.main.body.getD i (.Pass ⟨0, 0, 0, 0⟩)
structure Txt (mg : Str → Option Value) : Prop where
  m_abs : mg "abs" = none
  m_all : mg "all" = none
  m_any : mg "any" = none
  m_bool : mg "bool" = none
  m_dict : mg "dict" = none
  m_enumerate : mg "enumerate" = none
  m_int : mg "int" = none
  m_isinstance : mg "isinstance" = none
  m_len : mg "len" = none
  m_list : mg "list" = none
  m_max : mg "max" = none
  m_min : mg "min" = none
  m_range : mg "range" = none
  m_reversed : mg "reversed" = none
  m_set : mg "set" = none
  m_sorted : mg "sorted" = none
  m_str : mg "str" = none
  m_sum : mg "sum" = none
  m_tuple : mg "tuple" = none
  m_zip : mg "zip" = none
end PK
set_option pp.maxSteps 700
local macro_rules | `(tactic| walk_at "c") => `(tactic| (first | assumption | omega | decide | (dsimp only; done) | (dsimp only; first | assumption | omega | decide) | (unfold L2.CMul; omega) | (unfold L2.CDiv; omega) | (unfold L2.CPow; omega) | (unfold L2.CPow; exact ⟨by decide, by decide, by omega⟩)))
local macro_rules | `(tactic| walk_at "w") => `(tactic| (repeat (first
  | dsimp only
  | with_reducible first
    | apply WK.w_seq | apply WK.w_asg | apply WK.w_name | apply WK.w_gsub | apply WK.w_drop | apply WK.w_ret | apply WK.w_par | apply WK.w_par3 | apply WK.w_next
    | apply WK.w_c | apply WK.w_op | apply WK.w_un | apply WK.w_I0 | apply WK.w_U | apply WK.w_eqI | apply WK.w_neI | apply WK.w_eqS | apply WK.w_neS | apply WK.w_eqB | apply WK.w_neB
    | apply WK.w_T | apply WK.w_B | apply WK.w_not | apply WK.w_notV
    | apply WK.w_nil | apply WK.w_cons | apply WK.w_call | apply WK.w_cb | apply WK.w_tup | apply WK.w_lst | apply WK.w_bm | apply WK.w_bm0 | apply WK.w_dget | apply WK.w_din | apply WK.w_dnotin | apply WK.w_dput | apply WK.w_sl | apply WK.w_noPart | apply WK.w_part | apply WK.w_yes
    | apply PK.w_for | apply PK.w_rng1 | apply PK.w_itL | apply PK.w_itT | apply PK.w_itS | apply PK.w_enT | apply PK.w_zipA | apply WK.w_gcons | apply WK.w_gnil | apply WK.w_yes | apply PK.w_lc | apply PK.w_exR
    | apply WK.w_or1 | apply WK.w_or2 | apply WK.w_ex1 | apply WK.w_ex2 | apply WK.w_rfl | apply WK.w_pr2 | apply WK.w_pr3 | apply WK.w_ex | apply WK.w_exI | apply WK.w_bl
  | (with_reducible refine' WK.w_var ?h1 ?_); (case h1 => exact rfl)
  | (with_reducible refine' WK.w_I ?h1 ?_); (case h1 => walk_at "c")
  | (with_reducible refine' PK.w_len ?h1 ?_); (case h1 => assumption)
  | (with_reducible refine' WK.w_ix ?h1 ?h2 ?_); (case h1 => first | assumption | exact L2.upd_same); (case h2 => rfl)
  | (with_reducible refine' WK.w_ixT ?h1 ?h2 ?_); (case h1 => first | assumption | exact L2.upd_same); (case h2 => rfl)
  | (with_reducible refine' WK.w_inT ?h1 ?h2 ?h3 ?_); (case h1 => first | assumption | exact L2.upd_same); (case h2 => rfl); (case h3 => rfl)
  | (with_reducible refine' WK.w_ninT ?h1 ?h2 ?h3 ?_); (case h1 => first | assumption | exact L2.upd_same); (case h2 => rfl); (case h3 => rfl)
  | (with_reducible refine' WK.w_gtup ?h1 ?h2 ?_); (case h1 => first | assumption | exact L2.upd_same); (case h2 => rfl)
  | (with_reducible refine' WK.w_set ?h1 ?h2 ?_); (case h1 => first | assumption | exact L2.upd_same); (case h2 => rfl))))
local macro_rules | `(tactic| walk_at "i") => `(tactic| ((with_reducible first | apply WK.w_if | apply WK.w_ifE | apply WK.w_andV | apply WK.w_orV | apply WK.w_and | apply WK.w_or); walk_at "w"))
local macro_rules | `(tactic| walk_at "2") => `(tactic| (first | refine WK.w_2 (fun h => ?_) (fun h => ?_) | refine WK.w_2n (fun h => ?_) (fun h => ?_) | refine L2.ite2 (fun h => ?_) (fun h => ?_)))
local macro_rules | `(tactic| walk_at "k") => `(tactic| (dsimp only [PK.tyN]; decide +kernel))
local macro_rules | `(tactic| walk_at "v") => `(tactic| (repeat (first
  | dsimp only
  | with_reducible first
    | apply WK.w_seq | apply WK.w_asg | apply WK.w_name | apply WK.w_gsub | apply WK.w_drop | apply WK.w_ret | apply WK.w_par | apply WK.w_par3 | apply WK.w_next
    | apply WK.w_c | apply WK.w_op | apply WK.w_un | apply WK.w_I0 | apply WK.w_U | apply WK.w_eqI | apply WK.w_neI | apply WK.w_eqS | apply WK.w_neS | apply WK.w_eqB | apply WK.w_neB
    | apply WK.w_T | apply WK.w_B | apply WK.w_not | apply WK.w_notV
    | apply WK.w_nil | apply WK.w_cons | apply WK.w_call | apply WK.w_cb | apply WK.w_bm | apply WK.w_bm0 | apply WK.w_dget | apply WK.w_din | apply WK.w_dnotin | apply WK.w_dput | apply WK.w_sl | apply WK.w_noPart | apply WK.w_part | apply WK.w_yes
    | apply PK.w_for | apply PK.w_rng1 | apply PK.w_itL | apply PK.w_itT | apply PK.w_itS | apply PK.w_enT | apply PK.w_zipA | apply WK.w_gcons | apply WK.w_gnil | apply WK.w_yes | apply PK.w_lc | apply PK.w_exR
    | apply WK.w_or1 | apply WK.w_or2 | apply WK.w_ex1 | apply WK.w_ex2 | apply WK.w_rfl | apply WK.w_pr2 | apply WK.w_pr3 | apply WK.w_ex | apply WK.w_exI | apply WK.w_bl
  | (with_reducible refine' WK.w_var ?h1 ?_); (case h1 => exact rfl)
  | (with_reducible refine' WK.w_I ?h1 ?_); (case h1 => walk_at "c")
  | (with_reducible refine' PK.w_len ?h1 ?_); (case h1 => assumption)
  | (with_reducible refine' WK.w_ix ?h1 ?h2 ?_); (case h1 => first | assumption | exact L2.upd_same); (case h2 => rfl)
  | (with_reducible refine' WK.w_ixT ?h1 ?h2 ?_); (case h1 => first | assumption | exact L2.upd_same); (case h2 => rfl)
  | (with_reducible refine' WK.w_inT ?h1 ?h2 ?h3 ?_); (case h1 => first | assumption | exact L2.upd_same); (case h2 => rfl); (case h3 => rfl)
  | (with_reducible refine' WK.w_ninT ?h1 ?h2 ?h3 ?_); (case h1 => first | assumption | exact L2.upd_same); (case h2 => rfl); (case h3 => rfl)
  | (with_reducible refine' WK.w_gtup ?h1 ?h2 ?_); (case h1 => first | assumption | exact L2.upd_same); (case h2 => rfl)
  | (with_reducible refine' WK.w_set ?h1 ?h2 ?_); (case h1 => first | assumption | exact L2.upd_same); (case h2 => rfl))))
local macro_rules | `(tactic| walk_at "j") => `(tactic| ((with_reducible first | apply WK.w_if | apply WK.w_ifE | apply WK.w_andV | apply WK.w_orV | apply WK.w_and | apply WK.w_or); walk_at "v"))
namespace PK
open PySem L2
section
variable {P : Program} {w : World} {K : PySem.W.Frag} {mg : Str → Option Value} {base : Heap}
section
variable {C : Addr} {H : Hp} {p : Addr} {A : LA} {L : List (Int × Addr)} {s : LS} {Q : VK} {σ : L2.St} {j : Nat}
theorem LogAt.fnH (h : LogAt C H p A L s) (W : LogC K C) (hi : σ[j]? = some (some (.ref p))) (k : Q (.int s.hold) H) : tFld K (tVar j) "_hold" σ H Q := by
  obtain ⟨dx, ho⟩ := h.ob
  exact ⟨_, hi, p, C, dx, _, _, rfl, ho, W.cl, W.h, lF_nH, k⟩
theorem LogAt.fnG (h : LogAt C H p A L s) (W : LogC K C) (hi : σ[j]? = some (some (.ref p))) (k : Q (.ref A.gu) H) : tFld K (tVar j) "_guards" σ H Q := by
  obtain ⟨dx, ho⟩ := h.ob
  exact ⟨_, hi, p, C, dx, _, _, rfl, ho, W.cl, W.g, lF_nG, k⟩
theorem LogAt.fnT (h : LogAt C H p A L s) (W : LogC K C) (hi : σ[j]? = some (some (.ref p))) (k : Q (.int s.time) H) : tFld K (tVar j) "_time" σ H Q := by
  obtain ⟨dx, ho⟩ := h.ob
  exact ⟨_, hi, p, C, dx, _, _, rfl, ho, W.cl, W.t, lF_nT, k⟩
theorem LogAt.fnE (h : LogAt C H p A L s) (W : LogC K C) (hi : σ[j]? = some (some (.ref p))) (k : Q (.ref A.en) H) : tFld K (tVar j) "_entries" σ H Q := by
  obtain ⟨dx, ho⟩ := h.ob
  exact ⟨_, hi, p, C, dx, _, _, rfl, ho, W.cl, W.e, lF_nE, k⟩
theorem LogAt.fnO (h : LogAt C H p A L s) (W : LogC K C) (hi : σ[j]? = some (some (.ref p))) (k : Q (.ref A.go) H) : tFld K (tVar j) "_gone" σ H Q := by
  obtain ⟨dx, ho⟩ := h.ob
  exact ⟨_, hi, p, C, dx, _, _, rfl, ho, W.cl, W.o, lF_nO, k⟩
theorem LogAt.fnI (h : LogAt C H p A L s) (W : LogC K C) (hi : σ[j]? = some (some (.ref p))) (k : Q (.ref A.si) H) : tFld K (tVar j) "_since" σ H Q := by
  obtain ⟨dx, ho⟩ := h.ob
  exact ⟨_, hi, p, C, dx, _, _, rfl, ho, W.cl, W.i, lF_nI, k⟩
theorem LogAt.fnS (h : LogAt C H p A L s) (W : LogC K C) (hi : σ[j]? = some (some (.ref p))) (k : Q (.ref A.se) H) : tFld K (tVar j) "_seats" σ H Q := by
  obtain ⟨dx, ho⟩ := h.ob
  exact ⟨_, hi, p, C, dx, _, _, rfl, ho, W.cl, W.s, lF_nS, k⟩
theorem LogAt.fnA (h : LogAt C H p A L s) (W : LogC K C) (hi : σ[j]? = some (some (.ref p))) (k : Q (.ref A.ta) H) : tFld K (tVar j) "_tables" σ H Q := by
  obtain ⟨dx, ho⟩ := h.ob
  exact ⟨_, hi, p, C, dx, _, _, rfl, ho, W.cl, W.a, lF_nA, k⟩
theorem LogAt.fnC (h : LogAt C H p A L s) (W : LogC K C) (hi : σ[j]? = some (some (.ref p))) (k : Q (.ref A.co) H) : tFld K (tVar j) "_copies" σ H Q := by
  obtain ⟨dx, ho⟩ := h.ob
  exact ⟨_, hi, p, C, dx, _, _, rfl, ho, W.cl, W.c, lF_nC, k⟩
end
def minP (a b : Int) : Int := if b < a then b else a
def LS.near (s : LS) (l : Int) (g : Str × Int) : Int :=
  if g.1 = "copy" ∧ g.2 < s.copies.length then minP (if g.1 = "reader" then (match getA s.seats g.2 with | some q => minP l q | none => l) else l) (s.copies.getD g.2.toNat (0, [])).1
  else if g.1 = "reader" then (match getA s.seats g.2 with | some q => minP l q | none => l) else l
def LS.least (s : LS) : Int := s.guards.foldl s.near s.ents.length
theorem seats_get {H : Hp} {a : Addr} {l : List (Int × Int)} (h : H a = some (.dK (seatsV l))) (r : Int) : DGet H a (.int r) ((getA l r).map V.int) := by
  have q := DGet.k (k := .inl r) h
  rw [show valV (seatsV l) (.inl r) = (getA l r).map V.int from get_map Sum.inl inl_inj V.int l r] at q
  exact q
theorem cps_get {H : Hp} {cs : List V} {l : List (Int × List (Str × Int))} (h : Cps H cs l) {i : Nat} (hi : i < l.length) : ∃ a b xs, cs[i]? = some (.ref a) ∧ H a = some (.tup [.int (l.getD i (0, [])).1, .ref b]) ∧ FzT H b xs ∧ Tps H xs ((l.getD i (0, [])).2.map fun q => [.str q.1, .int q.2]) := by
  have e : l[i]? = some (l.getD i (0, [])) := by
    rw [List.getD_eq_getElem?_getD, List.getElem?_eq_getElem hi]
    rfl
  obtain ⟨v, e1, a, b, xs, e2, h1, h2, h3⟩ := pr_get' h e
  exact ⟨a, b, xs, by rw [e1, e2], h1, h2, h3⟩
def spLeast (C : Addr) : Sp := fun vs H Q _ => ∃ (p : Addr) (A : LA) (L : List (Int × Addr)) (s : LS), vs = [.ref p] ∧ LogAt C H p A L s ∧ s.ents.length ≤ 1000 ∧ (∀ g ∈ s.guards, 0 ≤ g.2) ∧ Q (.int s.least) H
abbrev s_Log__least_guard : Stmt := inClass (topS 6) 28
abbrev N_Log__least_guard : List Str := ["self", "least", "kind", "number"]
abbrev ps_Log__least_guard : List Str := ["self"]
theorem sc_Log__least_guard : FnScope N_Log__least_guard ps_Log__least_guard (defScope s_Log__least_guard) := ⟨rfl, rfl, rfl, by decide +kernel, rfl, by decide +kernel, by decide +kernel⟩
theorem has_least {C : Addr} (D : DfM K C "_least_guard" "Log._least_guard" s_Log__least_guard ps_Log__least_guard) (T : Txt mg) (W : LogC K C) : HasM P w K mg base C 1 "_least_guard" ps_Log__least_guard (spLeast C) := HasM.mk' D fun f fd F => by
  refine F.ok sc_Log__least_guard (fun vs H Q E h => ?_) (fun cdv A outer s H vs Q E hr h => ?_)
  · obtain ⟨p, A, L, s, rfl, _⟩ := h
    rfl
  · obtain ⟨p, A, L, s, rfl, hl, hn, hg, q⟩ := h
    refine ⟨_, (pss_cons (ps_set (i := 1) sc_Log__least_guard.nd rfl (Or.inl rfl) (pe_callB (call_len_seqK (K := K)) (by rfl) T.m_len (by decide +kernel) (pa_cons (pe_fld (pv 0) rfl) pa_nil)))
(pss_cons (ps_for PassesOwn.never rfl (pi_tup (pe_fld (pv 0) rfl)) (pg_tup rfl (pgs_cons (pg_name (i := 2) sc_Log__least_guard.nd rfl (Or.inl rfl)) (pgs_cons (pg_name (i := 3) sc_Log__least_guard.nd rfl (Or.inl rfl)) pgs_nil)))
  (pss_cons (ps_if (PW.pt (pw_and (pt_cmpR op_eq (pv 2) pe_str (nomark _)) (pw_and1 (pt_cmp (pc_din (hu_of hr) (pv 3) (pe_fld (pv 0) rfl))))))
    (pss_one (ps_set (i := 1) sc_Log__least_guard.nd rfl (Or.inl rfl) (pe_callB (call_min2 rfl) (by rfl) T.m_min (by decide +kernel) (pa_cons (pv 1) (pa_cons (pe_dget (hu_of hr) (pe_fld (pv 0) rfl) (pv 3) (fun _ _ => rfl)) pa_nil)))))
    pss_nil)
  (pss_one (ps_if (PW.pt (pw_and (pt_cmpR op_eq (pv 2) pe_str (nomark _)) (pw_and1 (pt_cmpR op_lt (pv 3) (pe_callB (call_len_seqK (K := K)) (by rfl) T.m_len (by decide +kernel) (pa_cons (pe_fld (pv 0) rfl) pa_nil)) (nomark _)))))
    (pss_one (ps_set (i := 1) sc_Log__least_guard.nd rfl (Or.inl rfl) (pe_callB (call_min2 rfl) (by rfl) T.m_min (by decide +kernel) (pa_cons (pv 1) (pa_cons (pe_ix (ix_tupK (K := K)) (pe_ix (ix_listK (K := K)) (pe_fld (pv 0) rfl) (pv 3) (fun _ _ => rfl)) pe_int (fun _ _ => rfl)) pa_nil)))))
    pss_nil))))
(pss_one (ps_ret (pv 1))))), ?_⟩
    obtain ⟨gs, gu1, gu2⟩ := id hl.gu
    obtain ⟨es, en1, en2⟩ := id hl.en
    obtain ⟨cs, co1, co2⟩ := id hl.co
    have esl : es.length = s.ents.length := by rw [en2.length, List.length_map]
    have csl : cs.length = s.copies.length := co2.length
    have gsl : gs.length = s.guards.length := by rw [gu2.length, List.length_map]
    walk_at "w"
    refine hl.fnE W rfl ?_
    walk_at "w"
    refine hl.fnG W rfl ?_
    walk_at "w"
    refine ⟨⟨gs, SqT.of gu1⟩, ?_⟩
    refine lp_tup (xs := gs) (fun i σ' H' => ∃ y2 y3, σ' = [some (.ref p), some (.int ((s.guards.take i).foldl s.near s.ents.length)), y2, y3] ∧ H' = H)
      ⟨none, none, by rw [esl]; rfl, rfl⟩ (fun i σ' H' _ ⟨_, _, _, e⟩ => by rw [e]; exact SqT.of gu1) ?_ ?_
    · rintro i x _ H0 hi ⟨y2, y3, rfl, rfl⟩
      obtain ⟨g', hg1, ⟨t, rfl, ht⟩⟩ := pr_get gu2 hi
      obtain ⟨g, hg2, rfl⟩ : ∃ g, s.guards[i]? = some g ∧ g' = [.str g.1, .int g.2] := by
        rw [List.getElem?_map] at hg1
        cases e : s.guards[i]? with
        | none => rw [e] at hg1; cases hg1
        | some g => rw [e] at hg1; exact ⟨g, rfl, (Option.some.inj hg1).symm⟩
      have tk : (s.guards.take (i + 1)).foldl s.near s.ents.length = s.near ((s.guards.take i).foldl s.near s.ents.length) g := by
        rw [take_snoc hg2, List.foldl_append]
        rfl
      rw [tk]
      generalize (s.guards.take i).foldl s.near s.ents.length = l at *
      have g0 := hg g (List.mem_of_getElem? hg2)
      obtain ⟨kind, number⟩ := g
      walk_at "w"
      refine WK.w_genS (t := tIfS _ _ _) (fun σ' H' => σ' = [some (.ref p), some (.int (if kind = "reader" then (match getA s.seats number with | some q => minP l q | none => l) else l)), some (.str kind), some (.int number)] ∧ H' = H0) ?_ ?_
      · rintro _ _ ⟨rfl, rfl⟩
        generalize el : (if kind = "reader" then (match getA s.seats number with | some q => minP l q | none => l) else l) = l1 at *
        walk_at "i"
        walk_at "i"
        refine WK.w_2 (fun h1 => ?_) (fun h1 => ?_)
        · walk_at "w"
          refine hl.fnC W rfl ?_
          walk_at "w"
          rw [csl]
          refine WK.w_2 (fun h2 => ?_) (fun h2 => ?_)
          · obtain ⟨ca, cb, cx, c1, c2, _⟩ := cps_get co2 (i := number.toNat) (by have : 0 ≤ number := g0; omega)
            walk_at "w"
            refine hl.fnC W rfl ?_
            walk_at "w"
            refine WK.w_ix co1 (WK.at_ofG (by have : 0 ≤ number := g0; omega) c1) ?_
            walk_at "w"
            refine ⟨some (.str kind), some (.int number), ?_, rfl⟩
            have e : s.near l (kind, number) = minP l1 (s.copies.getD number.toNat (0, [])).1 := by
              unfold LS.near
              rw [if_pos ⟨h1, h2⟩, el]
            rw [e]
            rfl
          · walk_at "w"
            refine ⟨some (.str kind), some (.int number), ?_, rfl⟩
            have e : s.near l (kind, number) = l1 := by
              unfold LS.near
              rw [if_neg fun z => h2 z.2, el]
            rw [e]
        · walk_at "w"
          refine WK.w_ifN (by decide) ?_
          walk_at "w"
          refine ⟨some (.str kind), some (.int number), ?_, rfl⟩
          have e : s.near l (kind, number) = l1 := by
            unfold LS.near
            rw [if_neg fun z => h1 z.1, el]
          rw [e]
      · intro D' _ _ _ go
        walk_at "i"
        walk_at "i"
        refine WK.w_2 (fun h1 => ?_) (fun h1 => ?_)
        · walk_at "w"
          refine hl.fnS W rfl ?_
          refine ⟨A.se, _, rfl, seats_get hl.se number, ?_⟩
          cases e : getA s.seats number with
          | none =>
            refine ⟨false, rfl, WK.w_ifN (by decide) ?_⟩
            refine go _ _ ⟨?_, rfl⟩
            rw [if_pos h1, e]
            rfl
          | some q =>
            refine ⟨true, rfl, WK.w_ifP rfl ?_⟩
            walk_at "w"
            refine hl.fnS W rfl ?_
            walk_at "w"
            have hg := seats_get hl.se number
            rw [e] at hg
            refine ⟨A.se, _, rfl, hg, ?_⟩
            walk_at "w"
            refine go _ _ ⟨?_, rfl⟩
            rw [if_pos h1, e]
            rfl
        · walk_at "w"
          refine WK.w_ifN (by decide) ?_
          refine go _ _ ⟨?_, rfl⟩
          rw [if_neg h1]
          rfl
    · rintro σ2 _ ⟨y2, y3, rfl, rfl⟩
      walk_at "w"
      rw [gsl, List.take_length]
      exact q

end
end PK
namespace PK
open PySem L2
section
variable {P : Program} {w : World} {K : PySem.W.Frag} {mg : Str → Option Value} {base : Heap}
/-- whether an entry goes as a mark that was covered for long enough -/
def goes (hold time : Int) : Option Int → Option Int → Bool
  | none, some t => decide (hold ≤ time - t)
  | _, _ => false
def LS.let1 (s : LS) (gone : List Bool) (i : Nat) : List Bool := if goes s.hold s.time (s.ents.getD i ("", some 0)).2 (s.since.getD i none) = true then gone.set i true else gone
theorem getD_of {α : Type} {l : List α} {i : Nat} {x d : α} (h : l[i]? = some x) : l.getD i d = x := by
  rw [List.getD_eq_getElem?_getD, h]
  rfl
def LS.lets (s : LS) : List Bool := (List.range s.least.toNat).foldl s.let1 s.gone
def LS.marks (s : LS) : LS := { s with gone := s.lets }
theorem let1_len (s : LS) (g : List Bool) (i : Nat) : (s.let1 g i).length = g.length := by
  unfold LS.let1
  split
  · rw [List.length_set]
  · rfl
theorem lets_len (s : LS) : ∀ (l : List Nat) (g : List Bool), (l.foldl s.let1 g).length = g.length
  | [], g => rfl
  | i :: l, g => by rw [List.foldl_cons, lets_len s l, let1_len]
theorem min_le {a b : Int} : minP a b ≤ a ∧ (minP a b = a ∨ minP a b = b) := by
  unfold minP
  split <;> constructor <;> omega
theorem near_le (s : LS) (l : Int) (g : Str × Int) : s.near l g ≤ l := by
  unfold LS.near
  have e : (if g.1 = "reader" then (match getA s.seats g.2 with | some q => minP l q | none => l) else l) ≤ l := by
    split
    · split
      · exact min_le.1
      · exact Int.le_refl _
    · exact Int.le_refl _
  revert e
  generalize (if g.1 = "reader" then (match getA s.seats g.2 with | some q => minP l q | none => l) else l) = x
  intro e
  split
  · exact Int.le_trans min_le.1 e
  · exact e
theorem nears_le (s : LS) : ∀ (gs : List (Str × Int)) (l : Int), gs.foldl s.near l ≤ l
  | [], l => Int.le_refl _
  | g :: gs, l => by
    rw [List.foldl_cons]
    exact Int.le_trans (nears_le s gs _) (near_le s l g)
theorem least_le (s : LS) : s.least ≤ s.ents.length := nears_le s _ _
theorem getA_mem {α β : Type} [DecidableEq α] {l : List (α × β)} {a : α} {b : β} (h : getA l a = some b) : (a, b) ∈ l := by
  unfold getA at h
  cases e : l.find? (fun p => decide (p.1 = a)) with
  | none => rw [e] at h; cases h
  | some p =>
    rw [e] at h
    have h1 := List.find?_some e
    have h2 := List.mem_of_find?_eq_some e
    cases h
    rw [← of_decide_eq_true h1]
    exact h2
theorem near_nn {s : LS} (h1 : ∀ p ∈ s.seats, 0 ≤ p.2) (h2 : ∀ c ∈ s.copies, 0 ≤ c.1) {l : Int} (hl : 0 ≤ l) (g : Str × Int) (hg : 0 ≤ g.2) : 0 ≤ s.near l g := by
  unfold LS.near
  have e : 0 ≤ (if g.1 = "reader" then (match getA s.seats g.2 with | some q => minP l q | none => l) else l) := by
    split
    · split
      · rename_i q hq
        have := h1 _ (getA_mem hq)
        rcases (min_le (a := l) (b := q)).2 with z | z <;> rw [z] <;> assumption
      · exact hl
    · exact hl
  revert e
  generalize (if g.1 = "reader" then (match getA s.seats g.2 with | some q => minP l q | none => l) else l) = x
  intro e
  split
  · rename_i hc
    have hi : g.2.toNat < s.copies.length := by omega
    have m : s.copies.getD g.2.toNat (0, []) ∈ s.copies := by
      rw [List.getD_eq_getElem?_getD, List.getElem?_eq_getElem hi]
      exact List.getElem_mem hi
    have := h2 _ m
    rcases (min_le (a := x) (b := (s.copies.getD g.2.toNat (0, [])).1)).2 with z | z <;> rw [z] <;> assumption
  · exact e
theorem nears_nn {s : LS} (h1 : ∀ p ∈ s.seats, 0 ≤ p.2) (h2 : ∀ c ∈ s.copies, 0 ≤ c.1) : ∀ (gs : List (Str × Int)), (∀ g ∈ gs, 0 ≤ g.2) → ∀ l : Int, 0 ≤ l → 0 ≤ gs.foldl s.near l
  | [], _, l, hl => hl
  | g :: gs, hg, l, hl => nears_nn h1 h2 gs (fun x hx => hg x (by simp [hx])) _ (near_nn h1 h2 hl g (hg g (by simp)))
theorem LS.Ok.least {s : LS} {n : Nat} (k : s.Ok n) : 0 ≤ s.least := nears_nn (fun p hp => (k.s0 p hp).1) (fun c hc => (k.c0 c hc).1) _ k.g0 _ (by omega)
def spMarks (C : Addr) : Sp := fun vs H Q _ => ∃ (p : Addr) (A : LA) (L : List (Int × Addr)) (s : LS), vs = [.ref p] ∧ LogAt C H p A L s ∧ s.Ok 1000 ∧ ∀ H', Gr (own p A (L.map (·.2))) H H' → LogAt C H' p A L s.marks → Q .non H'
abbrev s_Log__let_marks_go : Stmt := inClass (topS 6) 27
abbrev N_Log__let_marks_go : List Str := ["self", "place", "since"]
abbrev ps_Log__let_marks_go : List Str := ["self"]
theorem sc_Log__let_marks_go : FnScope N_Log__let_marks_go ps_Log__let_marks_go (defScope s_Log__let_marks_go) := ⟨rfl, rfl, rfl, by decide +kernel, rfl, by decide +kernel, by decide +kernel⟩
theorem has_marks {C : Addr} (D : DfM K C "_let_marks_go" "Log._let_marks_go" s_Log__let_marks_go ps_Log__let_marks_go) (T : Txt mg) (W : LogC K C) (G_Log__least_guard : HasM P w K mg base C 1 "_least_guard" ps_Log__least_guard (spLeast C)) :
    HasM P w K mg base C 2 "_let_marks_go" ps_Log__let_marks_go (spMarks C) := HasM.mk' D fun f fd F => by
  have CL_Log := W.cl
  refine F.ok sc_Log__let_marks_go (fun vs H Q E h => ?_) (fun cdv A' outer s' H vs Q E hr h => ?_)
  · obtain ⟨p, A, L, s, rfl, _⟩ := h
    rfl
  · obtain ⟨p, A, L, s, rfl, hl, ok, q⟩ := h
    have hlow := ok.least
    refine ⟨_, (pss_one (ps_for PassesOwn.never rfl (pi_range1 (by rfl) T.m_range (pa_cons (pe_meth0H (pv 0) G_Log__least_guard CL_Log (hr.mono (by decide))) pa_nil)) (pg_name (i := 1) sc_Log__let_marks_go.nd rfl (Or.inl rfl))
  (pss_cons (ps_set (i := 2) sc_Log__let_marks_go.nd rfl (Or.inl rfl) (pe_ix (ix_listK (K := K)) (pe_fld (pv 0) rfl) (pv 1) (fun _ _ => rfl)))
  (pss_one (ps_if (PW.pt (pw_and (pt_cmpR op_isN (pe_ix (ix_tupK (K := K)) (pe_ix (ix_listK (K := K)) (pe_fld (pv 0) rfl) (pv 1) (fun _ _ => rfl)) pe_int (fun _ _ => rfl)) pe_non (nomark _)) (pw_and (pt_cmpR op_notN (pv 2) pe_non (nomark _)) (pw_and1 (pt_cmpR op_ge (pe_op op_sub (pe_fld (pv 0) rfl) (pv 2)) (pe_fld (pv 0) rfl) (nomark _))))))
    (pss_one (ps_asg pe_bl (pg_sub (pe_fld (pv 0) rfl) (pv 1) set_list)))
    pss_nil))))), ?_⟩
    have hle := least_le s
    have h10 := ok.en
    walk_at "w"
    obtain ⟨dx, ho⟩ := hl.ob
    refine ⟨_, rfl, p, dx, _, rfl, ho, lF_none, ?_⟩
    walk_at "w"
    refine ⟨p, A, L, s, rfl, hl, ok.en, ok.g0, ?_⟩
    walk_at "w"
    refine ⟨by omega, by omega, ?_⟩
    refine lp_range (n := s.least.toNat) (fun i σ' H' => ∃ y1 y2, σ' = [some (.ref p), y1, y2] ∧ Gr (own p A (L.map (·.2))) H H' ∧ LogAt C H' p A L { s with gone := (List.range i).foldl s.let1 s.gone })
      ⟨none, none, rfl, Gr.refl _ _, hl⟩ ?_ ?_
    · rintro i _ H0 hi ⟨y1, y2, rfl, g0, l0⟩
      have glen : ((List.range i).foldl s.let1 s.gone).length = s.ents.length := by rw [lets_len, ok.eg]
      have tk : (List.range (i + 1)).foldl s.let1 s.gone = s.let1 ((List.range i).foldl s.let1 s.gone) i := by
        rw [List.range_succ, List.foldl_append]
        rfl
      rw [tk]
      generalize (List.range i).foldl s.let1 s.gone = gone at *
      have il : i < s.ents.length := by omega
      obtain ⟨es, en1, en2⟩ := l0.en
      have ei : s.ents[i]? = some s.ents[i] := List.getElem?_eq_getElem il
      have si : s.since[i]? = some (s.since[i]'(by rw [ok.es]; exact il)) := List.getElem?_eq_getElem _
      obtain ⟨v, ev1, c, rfl, ev2⟩ := pr_get' (i := i) en2 (y := [V.str s.ents[i].1, optV s.ents[i].2]) (by rw [List.getElem?_map]; show Option.map _ s.ents[i]? = _; rw [ei]; rfl)
      generalize s.ents[i] = e at *
      generalize (s.since[i]'(by rw [ok.es]; exact il)) = sn at *
      have l1 : LS.let1 s gone i = if goes s.hold s.time e.2 sn = true then gone.set i true else gone := by
        unfold LS.let1
        rw [getD_of ei, getD_of si]
      rw [l1]
      rw [Int.zero_add]
      walk_at "w"
      refine l0.fnI W rfl ?_
      walk_at "w"
      refine WK.w_ixL l0.si (by rw [List.getElem?_map]; show Option.map optV s.since[i]? = _; rw [si]; rfl) ?_
      walk_at "w"
      obtain ⟨k, o⟩ := e
      have same : goes s.hold s.time o sn = false → ∃ y1 y2, [some (V.ref p), some (V.int i), some (optV sn)] = [some (.ref p), y1, y2] ∧ Gr (own p A (L.map (·.2))) H H0 ∧ LogAt C H0 p A L { s with gone := if goes s.hold s.time o sn = true then gone.set i true else gone } := fun no => by
        rw [no]
        exact ⟨_, _, rfl, g0, l0⟩
      walk_at "i"
      walk_at "i"
      refine l0.fnE W rfl ?_
      walk_at "w"
      refine WK.w_ixL en1 ev1 ?_
      walk_at "w"
      cases o with
      | some z =>
        walk_at "w"
        refine WK.w_ifN (by simp [optV]) (WK.w_ifN (by decide) ?_)
        exact same rfl
      | none =>
        walk_at "w"
        refine WK.w_ifP (by decide) ?_
        walk_at "i"
        cases sn with
        | none =>
          walk_at "w"
          refine WK.w_ifN (by decide) (WK.w_ifN (by decide) ?_)
          exact same rfl
        | some z =>
          walk_at "w"
          refine WK.w_ifP (by simp [optV]) ?_
          dsimp only [optV]
          walk_at "w"
          refine l0.fnT W rfl ?_
          walk_at "w"
          refine l0.fnH W rfl ?_
          walk_at "w"
          refine WK.w_2 (fun h1 => ?_) (fun h1 => ?_)
          · walk_at "w"
            refine l0.fnO W rfl ?_
            walk_at "w"
            refine WK.w_setL l0.go (by rw [List.length_map]; show i < gone.length; omega) ?_
            have e2 : (gone.map V.bl).set i (.bl true) = (gone.set i true).map V.bl := by rw [List.map_set]
            obtain ⟨l2, g2⟩ := l0.setGo (gone.set i true)
            rw [show goes s.hold s.time none (some z) = true from decide_eq_true h1]
            refine ⟨_, _, rfl, g0.trans (H2 := upd H0 A.go (.lst ((gone.map V.bl).set i (.bl true)))) ?_, ?_⟩
            · rw [e2]; exact g2
            · show LogAt C (upd H0 A.go (.lst ((gone.map V.bl).set i (.bl true)))) p A L _
              rw [e2]; exact l2
          · exact same (decide_eq_false h1)
    · rintro σ2 H2 ⟨y1, y2, rfl, g2, l2⟩
      walk_at "w"
      exact q _ g2 l2

end
end PK
namespace PK
open PySem L2
section
variable {P : Program} {w : World} {K : PySem.W.Frag} {mg : Str → Option Value} {base : Heap}
theorem LS.Ok.up {s : LS} {n m : Nat} (k : s.Ok n) (l : n ≤ m) : s.Ok m := ⟨k.eg, k.es, Nat.le_trans k.en l, k.s0, Nat.le_trans k.sl l, Nat.le_trans k.tl l, k.c0, Nat.le_trans k.cl l, k.g0, fun t ht => Nat.le_trans (k.tw t ht) (sq_le l), fun t ht => Nat.le_trans (k.cw t ht) (sq_le l)⟩
theorem LS.Ok.marks {s : LS} {n : Nat} (k : s.Ok n) : s.marks.Ok n := ⟨by show s.lets.length = _; unfold LS.lets; rw [lets_len]; exact k.eg, k.es, k.en, k.s0, k.sl, k.tl, k.c0, k.cl, k.g0, k.tw, k.cw⟩
theorem LS.Ok.timed {s : LS} {n : Nat} (k : s.Ok n) (u : Int) : LS.Ok { s with time := u } n := ⟨k.eg, k.es, k.en, k.s0, k.sl, k.tl, k.c0, k.cl, k.g0, k.tw, k.cw⟩
def LS.endEv (s : LS) : LS := LS.marks { s with time := s.time + 1 }
theorem LS.Ok.ended {s : LS} {n : Nat} (k : s.Ok n) : s.endEv.Ok n := (k.timed _).marks
def spEnd (C : Addr) : Sp := fun vs H Q _ => ∃ (p : Addr) (A : LA) (L : List (Int × Addr)) (s : LS), vs = [.ref p] ∧ LogAt C H p A L s ∧ s.Ok 1000 ∧ ∀ H', Gr (own p A (L.map (·.2))) H H' → LogAt C H' p A L s.endEv → Q .non H'
theorem WK.w_fldaug {ta tv : TE} {rd : V → V → Hp → VK → Prop} {f : Str} {D : Ends} {σ : L2.St} {H : Hp} (k : ta σ H fun x H1 => ∃ a C dx fs v, x = .ref a ∧ H1 a = some (.ins C dx fs) ∧ Cls K C ∧ NoAttr K C f ∧ fs.lookup f = some v ∧
  tv σ H1 fun y H2 => rd v y H2 fun z H3 => ∃ dx' fs', H3 a = some (.ins C dx' fs') ∧ fs'.length < 1000 ∧ D.nx σ (upd H3 a (.ins C dx' (putF f z fs')))) : sFldAug K ta tv rd f D σ H := k
theorem WK.w_meth {C : Addr} {m : Str} {sp : Sp} {dvs : List V} {E : XK} {t : TA} {σ : L2.St} {H : Hp} {Q : VK} {i : Nat} {p dx : Addr} {fs : List (Str × V)} (hi : σ[i]? = some (some (.ref p))) (ho : H p = some (.ins C dx fs)) (hf : fs.lookup m = none) (k : t σ H fun vs H2 => sp (.ref p :: (vs ++ dvs)) H2 Q E) : tMeth C m sp dvs E (tVar i) t σ H Q := ⟨_, hi, p, dx, fs, rfl, ho, hf, k⟩
abbrev s_Log__end_event : Stmt := inClass (topS 6) 26
abbrev N_Log__end_event : List Str := ["self"]
abbrev ps_Log__end_event : List Str := ["self"]
theorem sc_Log__end_event : FnScope N_Log__end_event ps_Log__end_event (defScope s_Log__end_event) := ⟨rfl, rfl, rfl, by decide +kernel, rfl, by decide +kernel, by decide +kernel⟩
theorem has_endev {C : Addr} (D : DfM K C "_end_event" "Log._end_event" s_Log__end_event ps_Log__end_event) (T : Txt mg) (W : LogC K C) (G_Log__let_marks_go : HasM P w K mg base C 2 "_let_marks_go" ps_Log__let_marks_go (spMarks C)) :
    HasM P w K mg base C 3 "_end_event" ps_Log__end_event (spEnd C) := HasM.mk' D fun f fd F => by
  have CL_Log := W.cl
  refine F.ok sc_Log__end_event (fun vs H Q E h => ?_) (fun cdv A' outer s' H vs Q E hr h => ?_)
  · obtain ⟨p, A, L, s, rfl, _⟩ := h
    rfl
  · obtain ⟨p, A, L, s, rfl, hl, ok, q⟩ := h
    refine ⟨_, (pss_cons (ps_fldaug (pv 0) pe_int in_add)
(pss_one (ps_expr (pe_meth0H (pv 0) G_Log__let_marks_go CL_Log (hr.mono (by decide)))))), ?_⟩
    obtain ⟨dx, ho⟩ := hl.ob
    refine WK.w_seq ?_
    refine WK.w_fldaug ?_
    walk_at "w"
    refine ⟨p, C, dx, _, _, rfl, ho, W.cl, W.t, lF_nT, ?_⟩
    walk_at "w"
    refine ⟨_, _, rfl, rfl, dx, _, ho, by simp, ?_⟩
    rw [lF_put]
    obtain ⟨l1, g1⟩ := hl.setTime (s.time + 1) ho
    generalize (upd H p (.ins C dx (lF s.hold A (s.time + 1)))) = H1 at *
    obtain ⟨dx1, ho1⟩ := l1.ob
    refine WK.w_drop ?_
    refine WK.w_meth rfl ho1 lF_none ?_
    refine ⟨p, A, L, _, rfl, l1, ok.timed _, fun H2 g2 l2 => ?_⟩
    exact q _ (g1.trans g2) l2

end
end PK
namespace PK
open PySem L2
section
variable {P : Program} {w : World} {K : PySem.W.Frag} {mg : Str → Option Value} {base : Heap}
def LS.put (s : LS) (k : Str) (o : Option Int) : LS := { s with ents := s.ents ++ [(k, o)], gone := s.gone ++ [false], since := s.since ++ [none] }
def LS.app (s : LS) (k : Str) (o : Option Int) : LS := (s.put k o).endEv
theorem LS.Ok.put {s : LS} {n : Nat} (h : s.Ok n) (k : Str) (o : Option Int) : (s.put k o).Ok (n + 1) := by
  have e : (s.ents ++ [(k, o)]).length = s.ents.length + 1 := by rw [List.length_append]; rfl
  refine ⟨?_, ?_, ?_, fun p hp => ?_, ?_, ?_, fun c hc => ?_, ?_, h.g0, fun t ht => Nat.le_trans (h.tw t ht) (sq_le (Nat.le_succ n)), fun t ht => Nat.le_trans (h.cw t ht) (sq_le (Nat.le_succ n))⟩
  · show (s.gone ++ [false]).length = (s.ents ++ [(k, o)]).length
    rw [e, List.length_append, h.eg]; rfl
  · show (s.since ++ [none]).length = (s.ents ++ [(k, o)]).length
    rw [e, List.length_append, h.es]; rfl
  · show (s.ents ++ [(k, o)]).length ≤ n + 1
    rw [e]; have := h.en; omega
  · have := h.s0 p hp
    show 0 ≤ p.2 ∧ p.2 ≤ ((s.ents ++ [(k, o)]).length : Int)
    rw [e]; omega
  · exact Nat.le_succ_of_le h.sl
  · exact Nat.le_succ_of_le h.tl
  · have := h.c0 c hc
    show 0 ≤ c.1 ∧ c.1 ≤ ((s.ents ++ [(k, o)]).length : Int)
    rw [e]; omega
  · exact Nat.le_succ_of_le h.cl
theorem Gr.nw {M : List Addr} {H H1 H2 : Hp} (g : Gr [] H H1) (g' : Gr M H1 H2) : Gr M H H2 := (g.mono (by simp)).trans g'
/-- what a method that adds an entry keeps -/
def spAppend (C : Addr) : Sp := fun vs H Q _ => ∃ (p : Addr) (A : LA) (L : List (Int × Addr)) (s : LS) (k : Str) (o : Option Int), vs = [.ref p, .str k, optV o] ∧ LogAt C H p A L s ∧ s.Ok 999 ∧ ∀ H', Gr (own p A (L.map (·.2))) H H' → LogAt C H' p A L (s.app k o) → Q (.int s.ents.length) H'
abbrev s_Log__append : Stmt := inClass (topS 6) 23
abbrev N_Log__append : List Str := ["self", "key", "value"]
abbrev ps_Log__append : List Str := ["self", "key", "value"]
theorem sc_Log__append : FnScope N_Log__append ps_Log__append (defScope s_Log__append) := ⟨rfl, rfl, rfl, by decide +kernel, rfl, by decide +kernel, by decide +kernel⟩
theorem has_append {C : Addr} (D : DfM K C "_append" "Log._append" s_Log__append ps_Log__append) (T : Txt mg) (W : LogC K C) (G_Log__end_event : HasM P w K mg base C 3 "_end_event" ps_Log__end_event (spEnd C)) :
    HasM P w K mg base C 4 "_append" ps_Log__append (spAppend C) := HasM.mk' D fun f fd F => by
  have CL_Log := W.cl
  refine F.ok sc_Log__append (fun vs H Q E h => ?_) (fun cdv A' outer s' H vs Q E hr h => ?_)
  · obtain ⟨p, A, L, s, k, o, rfl, _⟩ := h
    rfl
  · obtain ⟨p, A, L, s, k, o, rfl, hl, ok, q⟩ := h
    refine ⟨_, (pss_cons (ps_expr (pe_bm PySem.F.plainAttrs_list PySem.F.slot_list_append PySem.F.type_list_append mt_append (pe_fld (pv 0) rfl) (pa_cons (pe_tup (pa_cons (pv 1) (pa_cons (pv 2) pa_nil))) pa_nil)))
(pss_cons (ps_expr (pe_bm PySem.F.plainAttrs_list PySem.F.slot_list_append PySem.F.type_list_append mt_append (pe_fld (pv 0) rfl) (pa_cons pe_bl pa_nil)))
(pss_cons (ps_expr (pe_bm PySem.F.plainAttrs_list PySem.F.slot_list_append PySem.F.type_list_append mt_append (pe_fld (pv 0) rfl) (pa_cons pe_non pa_nil)))
(pss_cons (ps_expr (pe_meth0H (pv 0) G_Log__end_event CL_Log (hr.mono (by decide))))
(pss_one (ps_ret (pe_op op_sub (pe_callB (call_len_seqK (K := K)) (by rfl) T.m_len (by decide +kernel) (pa_cons (pe_fld (pv 0) rfl) pa_nil)) pe_int))))))), ?_⟩
    have h9 := ok.en
    obtain ⟨es, en1, en2⟩ := id hl.en
    have el : es.length = s.ents.length := by rw [en2.length, List.length_map]
    walk_at "w"
    refine hl.fnE W rfl ?_
    refine ⟨.inl ⟨rfl, _, SqL.of en1⟩, ?_⟩
    walk_at "w"
    refine ⟨WK.sz, fun t nt => ?_⟩
    walk_at "w"
    have g1 : Gr [] H (upd H t (.tup [.str k, optV o])) := Gr.new nt
    have et : (upd H t (.tup [.str k, optV o])) t = some (.tup [.str k, optV o]) := upd_same
    have l1 := hl.k0 g1
    have en1 := g1.k0 en1
    generalize (upd H t (.tup [.str k, optV o])) = H1 at *
    refine WK.w_app en1 (WK.sz' (by omega)) ?_
    obtain ⟨l2, g2⟩ := l1.addEn en1 ⟨t, rfl, et⟩
    generalize (upd H1 A.en (.lst (es ++ [.ref t]))) = H2 at *
    walk_at "w"
    refine l2.fnO W rfl ?_
    refine ⟨.inl ⟨rfl, _, SqL.of l2.go⟩, ?_⟩
    walk_at "w"
    refine WK.w_app l2.go (WK.sz' (by rw [List.length_map]; show s.gone.length < _; rw [ok.eg]; omega)) ?_
    obtain ⟨l3, g3⟩ := l2.setGo (s.gone ++ [false])
    rw [show (s.gone ++ [false]).map V.bl = s.gone.map V.bl ++ [V.bl false] from by rw [List.map_append]; rfl] at l3 g3
    show (tSeq _ _) _ _ (upd H2 A.go (.lst (s.gone.map V.bl ++ [.bl false])))
    generalize (upd H2 A.go (.lst (s.gone.map V.bl ++ [.bl false]))) = H3 at *
    walk_at "w"
    refine l3.fnI W rfl ?_
    refine ⟨.inl ⟨rfl, _, SqL.of l3.si⟩, ?_⟩
    walk_at "w"
    refine WK.w_app l3.si (WK.sz' (by rw [List.length_map]; show s.since.length < _; rw [ok.es]; omega)) ?_
    obtain ⟨l4, g4⟩ := l3.setSi (s.since ++ [none])
    have em : List.map optV (s.since ++ [none]) = List.map optV s.since ++ [V.non] := by rw [List.map_append]; rfl
    rw [em] at l4 g4
    show (tSeq _ _) _ _ (upd H3 A.si (.lst (s.since.map optV ++ [.non])))
    generalize (upd H3 A.si (.lst (s.since.map optV ++ [.non]))) = H4 at *
    walk_at "w"
    obtain ⟨dx, ho⟩ := l4.ob
    refine WK.w_meth rfl ho lF_none ?_
    refine ⟨p, A, L, _, rfl, l4, ok.put k o, fun H5 g5 l5 => ?_⟩
    walk_at "w"
    obtain ⟨es5, en5, em5⟩ := id l5.en
    refine l5.fnE W rfl ?_
    walk_at "w"
    have e5 : es5.length = s.ents.length + 1 := by
      rw [em5.length, List.length_map]
      show (s.ents ++ [(k, o)]).length = _
      rw [List.length_append]
      rfl
    rw [show ((es5.length : Int)) - 1 = s.ents.length from by rw [e5]; omega]
    exact q _ (g1.nw (((g2.trans g3).trans g4).trans g5)) l5

end
end PK
namespace PK
open PySem L2
section
variable {P : Program} {w : World} {K : PySem.W.Frag} {mg : Str → Option Value} {base : Heap}
def spPut (C : Addr) : Sp := fun vs H Q _ => ∃ (p : Addr) (A : LA) (L : List (Int × Addr)) (s : LS) (k : Str) (i : Int), vs = [.ref p, .str k, .int i] ∧ LogAt C H p A L s ∧ s.Ok 999 ∧ ∀ H', Gr (own p A (L.map (·.2))) H H' → LogAt C H' p A L (s.app k (some i)) → Q (.int s.ents.length) H'
abbrev s_Log_put : Stmt := inClass (topS 6) 4
abbrev N_Log_put : List Str := ["self", "key", "value"]
abbrev ps_Log_put : List Str := ["self", "key", "value"]
theorem sc_Log_put : FnScope N_Log_put ps_Log_put (defScope s_Log_put) := ⟨rfl, rfl, rfl, by decide +kernel, rfl, by decide +kernel, by decide +kernel⟩
theorem has_logput {C : Addr} (D : DfM K C "put" "Log.put" s_Log_put ps_Log_put) (T : Txt mg) (W : LogC K C) (G_Log__append : HasM P w K mg base C 4 "_append" ps_Log__append (spAppend C)) :
    HasM P w K mg base C 5 "put" ps_Log_put (spPut C) := HasM.mk' D fun f fd F => by
  have CL_Log := W.cl
  refine F.ok sc_Log_put (fun vs H Q E h => ?_) (fun cdv A' outer s' H vs Q E hr h => ?_)
  · obtain ⟨p, A, L, s, k, i, rfl, _⟩ := h
    rfl
  · obtain ⟨p, A, L, s, k, i, rfl, hl, ok, q⟩ := h
    refine ⟨_, (pss_one (ps_ret (pe_methH (pv 0) G_Log__append CL_Log (hr.mono (by decide)) (pa_cons (pv 1) (pa_cons (pv 2) pa_nil))))), ?_⟩
    obtain ⟨dx, ho⟩ := hl.ob
    walk_at "w"
    refine WK.w_meth rfl ho lF_none ?_
    walk_at "w"
    exact ⟨p, A, L, s, k, some i, rfl, hl, ok, q⟩
def spDrop (C : Addr) : Sp := fun vs H Q _ => ∃ (p : Addr) (A : LA) (L : List (Int × Addr)) (s : LS) (k : Str), vs = [.ref p, .str k] ∧ LogAt C H p A L s ∧ s.Ok 999 ∧ ∀ H', Gr (own p A (L.map (·.2))) H H' → LogAt C H' p A L (s.app k none) → Q (.int s.ents.length) H'
abbrev s_Log_drop : Stmt := inClass (topS 6) 5
abbrev N_Log_drop : List Str := ["self", "key"]
abbrev ps_Log_drop : List Str := ["self", "key"]
theorem sc_Log_drop : FnScope N_Log_drop ps_Log_drop (defScope s_Log_drop) := ⟨rfl, rfl, rfl, by decide +kernel, rfl, by decide +kernel, by decide +kernel⟩
theorem has_logdrop {C : Addr} (D : DfM K C "drop" "Log.drop" s_Log_drop ps_Log_drop) (T : Txt mg) (W : LogC K C) (G_Log__append : HasM P w K mg base C 4 "_append" ps_Log__append (spAppend C)) :
    HasM P w K mg base C 5 "drop" ps_Log_drop (spDrop C) := HasM.mk' D fun f fd F => by
  have CL_Log := W.cl
  refine F.ok sc_Log_drop (fun vs H Q E h => ?_) (fun cdv A' outer s' H vs Q E hr h => ?_)
  · obtain ⟨p, A, L, s, k, rfl, _⟩ := h
    rfl
  · obtain ⟨p, A, L, s, k, rfl, hl, ok, q⟩ := h
    refine ⟨_, (pss_one (ps_ret (pe_methH (pv 0) G_Log__append CL_Log (hr.mono (by decide)) (pa_cons (pv 1) (pa_cons pe_non pa_nil))))), ?_⟩
    obtain ⟨dx, ho⟩ := hl.ob
    walk_at "w"
    refine WK.w_meth rfl ho lF_none ?_
    walk_at "w"
    exact ⟨p, A, L, s, k, none, rfl, hl, ok, q⟩
def spWait (C : Addr) : Sp := fun vs H Q _ => ∃ (p : Addr) (A : LA) (L : List (Int × Addr)) (s : LS), vs = [.ref p] ∧ LogAt C H p A L s ∧ s.Ok 999 ∧ ∀ H', Gr (own p A (L.map (·.2))) H H' → LogAt C H' p A L s.endEv → Q .non H'
abbrev s_Log_wait : Stmt := inClass (topS 6) 10
abbrev N_Log_wait : List Str := ["self"]
abbrev ps_Log_wait : List Str := ["self"]
theorem sc_Log_wait : FnScope N_Log_wait ps_Log_wait (defScope s_Log_wait) := ⟨rfl, rfl, rfl, by decide +kernel, rfl, by decide +kernel, by decide +kernel⟩
theorem has_logwait {C : Addr} (D : DfM K C "wait" "Log.wait" s_Log_wait ps_Log_wait) (T : Txt mg) (W : LogC K C) (G_Log__end_event : HasM P w K mg base C 3 "_end_event" ps_Log__end_event (spEnd C)) :
    HasM P w K mg base C 4 "wait" ps_Log_wait (spWait C) := HasM.mk' D fun f fd F => by
  have CL_Log := W.cl
  refine F.ok sc_Log_wait (fun vs H Q E h => ?_) (fun cdv A' outer s' H vs Q E hr h => ?_)
  · obtain ⟨p, A, L, s, rfl, _⟩ := h
    rfl
  · obtain ⟨p, A, L, s, rfl, hl, ok, q⟩ := h
    refine ⟨_, (pss_one (ps_expr (pe_meth0H (pv 0) G_Log__end_event CL_Log (hr.mono (by decide))))), ?_⟩
    obtain ⟨dx, ho⟩ := hl.ob
    walk_at "w"
    refine WK.w_meth rfl ho lF_none ?_
    exact ⟨p, A, L, s, rfl, hl, ok.up (by decide), q⟩

end
end PK
namespace PK
open PySem L2
section
variable {P : Program} {w : World} {K : PySem.W.Frag} {mg : Str → Option Value} {base : Heap}
section
variable {C : Addr} {H H' : Hp} {p : Addr} {A : LA} {L : List (Int × Addr)} {s : LS}
theorem LogAt.live (h : LogAt C H p A L s) {d : Addr} (hd : H d = none) : d ∉ own p A (L.map (·.2)) := by
  obtain ⟨⟨dx', ob⟩, ⟨gs, gu1, gu2⟩, ⟨es, en1, en2⟩, go, si, se, ta, td, ⟨cs, co1, co2⟩, knn, ndd⟩ := h
  intro hm
  simp only [own, List.mem_cons] at hm
  rcases hm with z | z | z | z | z | z | z | z
  · rw [z, ob] at hd; cases hd
  · rw [z, en1] at hd; cases hd
  · rw [z, go] at hd; cases hd
  · rw [z, si] at hd; cases hd
  · rw [z, se] at hd; cases hd
  · rw [z, ta] at hd; cases hd
  · rw [z, co1] at hd; cases hd
  · obtain ⟨q, hq, e⟩ := List.mem_map.mp z
    obtain ⟨t, _, ht⟩ := mem_of_pr td hq
    rw [← e, ht.2] at hd
    cases hd
theorem seats_put {a : Addr} {l : List (Int × Int)} (h : H a = some (.dK (seatsV l))) (hl : l.length ≤ 1000) (r q : Int) : DPut H a (.int r) (.int q) (upd H a (.dK (seatsV (putA l r q)))) := by
  have z := DPut.k (k := .inl r) (v := .int q) h (WK.sz' (by unfold seatsV; rw [List.length_map]; omega))
  rw [show putK (seatsV l) (.inl r) (.int q) = seatsV (putA l r q) from put_map Sum.inl inl_inj V.int l r q] at z
  exact z
theorem tabs_put {a : Addr} {l : List (Int × Addr)} (h : H a = some (.dK (tabsV l))) (hl : l.length ≤ 1000) (r : Int) (d : Addr) : DPut H a (.int r) (.ref d) (upd H a (.dK (tabsV (putA l r d)))) := by
  have z := DPut.k (k := .inl r) (v := .ref d) h (WK.sz' (by unfold tabsV; rw [List.length_map]; omega))
  rw [show putK (tabsV l) (.inl r) (.ref d) = tabsV (putA l r d) from put_map Sum.inl inl_inj V.ref l r d] at z
  exact z
theorem tabs_get {a : Addr} {l : List (Int × Addr)} (h : H a = some (.dK (tabsV l))) (r : Int) : DGet H a (.int r) ((getA l r).map V.ref) := by
  have q := DGet.k (k := .inl r) h
  rw [show valV (tabsV l) (.inl r) = (getA l r).map V.ref from get_map Sum.inl inl_inj V.ref l r] at q
  exact q
/-- gone on from H to H', with other tables maybe -/
structure Stp (C : Addr) (H : Hp) (p : Addr) (A : LA) (L : List (Int × Addr)) (s' : LS) (H' : Hp) (L' : List (Int × Addr)) : Prop where
  gr : Gr (own p A (L.map (·.2))) H H'
  sub : ∀ x ∈ own p A (L'.map (·.2)), x ∈ own p A (L.map (·.2)) ∨ H x = none
  at_ : LogAt C H' p A L' s'
theorem Stp.one {s' : LS} (g : Gr (own p A (L.map (·.2))) H H') (l : LogAt C H' p A L s') : Stp C H p A L s' H' L := ⟨g, fun x hx => .inl hx, l⟩
theorem Stp.trans {s1 s2 : LS} {H1 H2 : Hp} {L1 L2 : List (Int × Addr)} (a : Stp C H p A L s1 H1 L1) (b : Stp C H1 p A L1 s2 H2 L2) : Stp C H p A L s2 H2 L2 := by
  refine ⟨⟨fun x o hx hH => ?_, fun x xs hx => b.gr.tup _ _ (a.gr.tup _ _ hx), fun x o u hx => b.gr.fix _ _ _ (a.gr.fix _ _ _ hx), fun x hx => a.gr.live _ (b.gr.live _ hx)⟩, fun x hx => ?_, b.at_⟩
  · have n1 : x ∉ own p A (L1.map (·.2)) := fun hm => (a.sub x hm).elim hx fun z => by rw [z] at hH; cases hH
    exact b.gr.keep _ _ n1 (a.gr.keep _ _ hx hH)
  · rcases b.sub x hx with z | z
    · exact a.sub x z
    · exact .inr (a.gr.live _ z)
end
def LS.join (s : LS) (r : Int) : LS := LS.endEv { s with seats := putA s.seats r 0, tabs := putA s.tabs r [] }
theorem putA_mem {α β : Type} [DecidableEq α] {l : List (α × β)} {a : α} {b : β} {x : α × β} (h : x ∈ putA l a b) : x = (a, b) ∨ x ∈ l := by
  unfold putA at h
  split at h
  · obtain ⟨y, hy, e⟩ := List.mem_map.mp h
    by_cases z : y.1 = a
    · rw [if_pos z] at e
      exact .inl (by rw [← e, z])
    · rw [if_neg z] at e
      exact .inr (by rw [← e]; exact hy)
  · rcases List.mem_append.mp h with z | z
    · exact .inr z
    · exact .inl (List.mem_singleton.mp z)
theorem LS.Ok.seat {s : LS} {n : Nat} (k : s.Ok n) (r q : Int) (t : List (Str × Int)) (hq : 0 ≤ q ∧ q ≤ s.ents.length) (ht : t.length ≤ (n + 1) * (n + 1)) : LS.Ok { s with seats := putA s.seats r q, tabs := putA s.tabs r t } (n + 1) := by
  refine ⟨k.eg, k.es, Nat.le_succ_of_le k.en, fun p hp => ?_, ?_, ?_, k.c0, Nat.le_succ_of_le k.cl, k.g0, fun x hx => ?_, fun t ht => Nat.le_trans (k.cw t ht) (sq_le (Nat.le_succ n))⟩
  · rcases putA_mem hp with e | e
    · rw [e]; exact hq
    · exact k.s0 p e
  · exact Nat.le_trans (putA_len _ _ _) (Nat.succ_le_succ k.sl)
  · exact Nat.le_trans (putA_len _ _ _) (Nat.succ_le_succ k.tl)
  · rcases putA_mem hx with e | e
    · rw [e]; exact ht
    · exact Nat.le_trans (k.tw x e) (sq_le (Nat.le_succ n))
def spJoin (C : Addr) : Sp := fun vs H Q _ => ∃ (p : Addr) (A : LA) (L : List (Int × Addr)) (s : LS) (r : Int), vs = [.ref p, .int r] ∧ LogAt C H p A L s ∧ s.Ok 999 ∧ ∀ H' L', Stp C H p A L (s.join r) H' L' → Q .non H'
abbrev s_Log_join : Stmt := inClass (topS 6) 6
abbrev N_Log_join : List Str := ["self", "reader"]
abbrev ps_Log_join : List Str := ["self", "reader"]
theorem sc_Log_join : FnScope N_Log_join ps_Log_join (defScope s_Log_join) := ⟨rfl, rfl, rfl, by decide +kernel, rfl, by decide +kernel, by decide +kernel⟩
theorem has_logjoin {C : Addr} (D : DfM K C "join" "Log.join" s_Log_join ps_Log_join) (T : Txt mg) (W : LogC K C) (G_Log__end_event : HasM P w K mg base C 3 "_end_event" ps_Log__end_event (spEnd C)) :
    HasM P w K mg base C 4 "join" ps_Log_join (spJoin C) := HasM.mk' D fun f fd F => by
  have CL_Log := W.cl
  refine F.ok sc_Log_join (fun vs H Q E h => ?_) (fun cdv A' outer s' H vs Q E hr h => ?_)
  · obtain ⟨p, A, L, s, r, rfl, _⟩ := h
    rfl
  · obtain ⟨p, A, L, s, r, rfl, hl, ok, q⟩ := h
    refine ⟨_, (pss_cons (ps_dput (hu_of hr) (pe_fld (pv 0) rfl) (pv 1) pe_int rfl)
(pss_cons (ps_dput (hu_of hr) (pe_fld (pv 0) rfl) (pv 1) pe_dnewK rfl)
(pss_one (ps_expr (pe_meth0H (pv 0) G_Log__end_event CL_Log (hr.mono (by decide))))))), ?_⟩
    have hL : L.length = s.tabs.length := hl.td.length
    have h1 := ok.sl
    have h2 := ok.tl
    walk_at "w"
    refine hl.fnS W rfl ?_
    walk_at "w"
    refine ⟨A.se, _, rfl, seats_put hl.se (by omega) r 0, ?_⟩
    obtain ⟨l1, g1⟩ := hl.setSe (putA s.seats r 0)
    generalize (upd H A.se (.dK (seatsV (putA s.seats r 0)))) = H1 at *
    walk_at "w"
    intro d nd
    have g2 : Gr [] H1 (upd H1 d (.dK [])) := Gr.new nd
    have ed : (upd H1 d (.dK [])) d = some (.dK (tabV [])) := upd_same
    have dn := l1.live nd
    have l2 := l1.k0 g2
    have nd0 : H d = none := g1.live _ nd
    generalize (upd H1 d (.dK [])) = H2 at *
    refine l2.fnA W rfl ?_
    walk_at "w"
    refine ⟨A.ta, _, rfl, tabs_put l2.ta (by omega) r d, ?_⟩
    obtain ⟨l3, g3, sub⟩ := l2.newTab r ed dn
    generalize (upd H2 A.ta (.dK (tabsV (putA L r d)))) = H3 at *
    walk_at "w"
    obtain ⟨dx, ho⟩ := l3.ob
    refine WK.w_meth rfl ho lF_none ?_
    refine ⟨p, A, _, _, rfl, l3, (ok.seat r 0 [] ⟨by omega, by omega⟩ (by simp)), fun H4 g4 l4 => ?_⟩
    refine q _ _ (Stp.trans ⟨(g1.trans (g2.mono (by simp))).trans g3, fun x hx => ?_, l3⟩ (Stp.one g4 l4))
    rcases sub x hx with e | e
    · exact .inr (by rw [e]; exact nd0)
    · exact .inl e

end
end PK
namespace PK
open PySem L2
section
variable {P : Program} {w : World} {K : PySem.W.Frag} {mg : Str → Option Value} {base : Heap}
def spCheck (C : Addr) : Sp := fun vs H Q _ => ∃ (p : Addr) (A : LA) (L : List (Int × Addr)) (s : LS) (r z : Int), vs = [.ref p, .int r] ∧ LogAt C H p A L s ∧ getA s.seats r = some z ∧ Q .non H
abbrev s_Log__check_joined : Stmt := inClass (topS 6) 24
abbrev N_Log__check_joined : List Str := ["self", "reader"]
abbrev ps_Log__check_joined : List Str := ["self", "reader"]
theorem sc_Log__check_joined : FnScope N_Log__check_joined ps_Log__check_joined (defScope s_Log__check_joined) := ⟨rfl, rfl, rfl, by decide +kernel, rfl, by decide +kernel, by decide +kernel⟩
theorem has_check {C : Addr} (D : DfM K C "_check_joined" "Log._check_joined" s_Log__check_joined ps_Log__check_joined) (T : Txt mg) (W : LogC K C) : HasM P w K mg base C 1 "_check_joined" ps_Log__check_joined (spCheck C) := HasM.mk' D fun f fd F => by
  refine F.ok sc_Log__check_joined (fun vs H Q E h => ?_) (fun cdv A' outer s' H vs Q E hr h => ?_)
  · obtain ⟨p, A, L, s, r, z, rfl, _⟩ := h
    rfl
  · obtain ⟨p, A, L, s, r, z, rfl, hl, e, q⟩ := h
    refine ⟨_, (pss_one (ps_if (pt_cmp (pc_dnotin (hu_of hr) (pv 1) (pe_fld (pv 0) rfl)))
  (pss_one ps_never)
  pss_nil)), ?_⟩
    walk_at "i"
    refine hl.fnS W rfl ?_
    refine ⟨A.se, _, rfl, seats_get hl.se r, ?_⟩
    rw [e]
    refine ⟨false, rfl, WK.w_ifN (by decide) ?_⟩
    exact q
def LS.row (s : LS) (i : Nat) : List V := [.int i, .str (s.ents.getD i ("", none)).1, optV (s.ents.getD i ("", none)).2]
def LS.here (s : LS) (j : Nat) : List Nat := (List.range j).filter fun i => !s.gone.getD i true
def LS.there (s : LS) : List Nat := s.here s.ents.length
theorem w_enum {ta : TA} {σ : L2.St} {H : Hp} {R : It → Hp → Prop} (k : ta σ H fun vs H1 => ∃ a xs, vs = [.ref a] ∧ SqL K H1 a xs ∧ R (Ite K a) H1) : iEnum K ta σ H R := k
theorem here_succ (s : LS) (j : Nat) : s.here (j + 1) = s.here j ++ (if s.gone.getD j true = true then [] else [j]) := by
  unfold LS.here
  rw [List.range_succ, List.filter_append]
  congr 1
  cases h : s.gone.getD j true with
  | false => rw [if_neg (by decide)]; simp only [List.filter_cons, h]; rfl
  | true => rw [if_pos rfl]; simp only [List.filter_cons, h]; rfl
theorem here_len (s : LS) (j : Nat) : (s.here j).length ≤ j := by
  unfold LS.here
  exact Nat.le_trans (List.length_filter_le _ _) (by simp)
def spThere (C : Addr) : Sp := fun vs H Q _ => ∃ (p : Addr) (A : LA) (L : List (Int × Addr)) (s : LS), vs = [.ref p] ∧ LogAt C H p A L s ∧ s.Ok 1000 ∧ ∀ l xs H', Gr [] H H' → H l = none → H' l = some (.lst xs) → Tps H' xs (s.there.map s.row) → Q (.ref l) H'
abbrev s_Log_there : Stmt := inClass (topS 6) 13
abbrev N_Log_there : List Str := ["self", "place", "key", "value"]
abbrev ps_Log_there : List Str := ["self"]
theorem sc_Log_there : FnScope N_Log_there ps_Log_there (defScope s_Log_there) := ⟨rfl, rfl, rfl, by decide +kernel, rfl, by decide +kernel, by decide +kernel⟩
theorem has_there {C : Addr} (D : DfM K C "there" "Log.there" s_Log_there ps_Log_there) (T : Txt mg) (W : LogC K C) : HasM P w K mg base C 1 "there" ps_Log_there (spThere C) := HasM.mk' D fun f fd F => by
  refine F.ok sc_Log_there (fun vs H Q E h => ?_) (fun cdv A' outer s' H vs Q E hr h => ?_)
  · obtain ⟨p, A, L, s, rfl, _⟩ := h
    rfl
  · obtain ⟨p, A, L, s, rfl, hl, ok, q⟩ := h
    refine ⟨_, (pss_one (ps_ret (pe_lc (own := [("place", 1), ("key", 2), ("value", 3)]) (g := (gTup K 2 (gCons (gName 1) (gCons (gTup K 2 (gCons (gName 2) (gCons (gName 3) gNil))) gNil))))  rfl sc_Log_there.nd (pi_enum (by rfl) T.m_enumerate (pa_cons (pe_fldK (K := K) (pv 0) rfl) pa_nil)) (blkOk_by (own := [("place", 1), ("key", 2), ("value", 3)]) (N := N_Log_there) (sc := defScope s_Log_there) (by decide +kernel)) (fun _ _ _ _ _ => (pg_tupK (K := K) rfl (pgs_cons (pg_name (i := 1) sc_Log_there.nd rfl (Or.inl rfl)) (pgs_cons (pg_tup rfl (pgs_cons (pg_name (i := 2) sc_Log_there.nd rfl (Or.inl rfl)) (pgs_cons (pg_name (i := 3) sc_Log_there.nd rfl (Or.inl rfl)) pgs_nil))) pgs_nil)))) (fun _ _ _ _ _ => pts_one (pt_not (pt_val (pe_ix (ix_listK (K := K)) (pe_fldK (K := K) (pv 0) rfl) (pv 1) (fun _ _ => rfl))))) (fun _ _ _ _ _ => (pe_tup (pa_cons (pv 1) (pa_cons (pv 2) (pa_cons (pv 3) pa_nil)))))))), ?_⟩
    have h10 := ok.en
    obtain ⟨es, en1, en2⟩ := id hl.en
    have el : es.length = s.ents.length := by rw [en2.length, List.length_map]
    walk_at "w"
    refine w_enum ?_
    walk_at "w"
    refine hl.fnE W rfl ?_
    walk_at "w"
    refine ⟨A.en, es, rfl, SqL.of en1, ?_⟩
    refine lc_go (walk_enum (K := K) (a := A.en) (xs := es)) (fun Dn j acc H' => Gr [] H H' ∧ Tps H' acc ((s.here j).map s.row)) (fun Dn nD => ⟨Gr.new nD, .nil⟩) (fun Dn j acc H' _ ⟨g, _⟩ => SqL.of (g.k0 en1)) ?_ ?_
    · rintro Dn j acc x H1 H2 nD hj hD la ⟨g1, t1⟩ ⟨tt, v1, v2, rfl, nt, rfl, e1, e2⟩
      cases e1
      have jl : j < s.ents.length := by omega
      obtain ⟨y, f1, c, rfl, f2⟩ := pr_get en2 e2
      have ej : s.ents[j]? = some s.ents[j] := List.getElem?_eq_getElem jl
      rw [List.getElem?_map, ej] at f1
      cases f1
      have gj : s.gone[j]? = some (s.gone[j]'(by rw [ok.eg]; exact jl)) := List.getElem?_eq_getElem _
      have g2 : Gr [] H1 (upd H1 tt (.tup [.int (j : Nat), .ref c])) := Gr.new nt
      have et : (upd H1 tt (.tup [.int (j : Nat), .ref c])) tt = some (.tup [.int (j : Nat), .ref c]) := upd_same
      have hD2 := g2.k0 hD
      have t2 := t1.gr g2
      have g02 := g1.trans g2
      generalize (upd H1 tt (.tup [.int (j : Nat), .ref c])) = H2 at *
      have fc := g02.tup _ _ f2
      have l2 := hl.k0 g02
      have row : s.row j = [.int j, .str s.ents[j].1, optV s.ents[j].2] := by unfold LS.row; rw [getD_of ej]
      generalize s.ents[j] = e at *
      generalize (s.gone[j]'(by rw [ok.eg]; exact jl)) = gg at *
      walk_at "w"
      refine ⟨rfl, ?_⟩
      walk_at "w"
      refine l2.fnO W rfl ?_
      walk_at "w"
      refine WK.w_ixL l2.go (by rw [List.getElem?_map, gj]; rfl) ?_
      walk_at "w"
      have hs := here_succ s j
      rw [getD_of gj] at hs
      cases gg with
      | true =>
        refine WK.w_ifN (by decide) (lc_no hD2 la ⟨g02, ?_⟩)
        rw [hs]
        simpa using t2
      | false =>
        refine WK.w_ifP rfl ?_
        walk_at "w"
        refine ⟨WK.sz, fun q nq => ?_⟩
        have g3 : Gr [] H2 (upd H2 q (.tup [.int (j : Nat), .str e.1, optV e.2])) := Gr.new nq
        have eq : (upd H2 q (.tup [.int (j : Nat), .str e.1, optV e.2])) q = some (.tup [.int (j : Nat), .str e.1, optV e.2]) := upd_same
        have hD3 := g3.k0 hD2
        have t3 := t2.gr g3
        generalize (upd H2 q (.tup [.int (j : Nat), .str e.1, optV e.2])) = H3 at *
        have gD : Gr [Dn] H3 (upd H3 Dn (.lst (acc ++ [.ref q]))) := Gr.mutL hD3 (by simp)
        refine lc_yes hD3 la (by omega) ⟨(g02.trans g3).own gD nD, ?_⟩
        rw [hs, if_neg (by decide), List.map_append]
        refine pr_append (t3.gr gD) (.cons ⟨q, rfl, ?_⟩ .nil)
        rw [row]
        exact gD.tup _ _ eq
    · rintro Dn acc H1 nD hD la ⟨g1, t1⟩
      rw [el] at t1
      exact q _ _ _ g1 nD hD t1

end
end PK
namespace PK
open PySem L2
section
variable {P : Program} {w : World} {K : PySem.W.Frag} {mg : Str → Option Value} {base : Heap}
def tabStep (t : List (Str × Int)) (e : Str × Option Int) : List (Str × Int) :=
  match e.2 with
  | some i => putA t e.1 i
  | none => delA t e.1
def inR (a u : Int) (i : Nat) : Bool := decide (a ≤ (i : Int)) && decide ((i : Int) < u)
def LS.got (s : LS) (a u : Int) : List Nat := s.there.filter (inR a u)
def LS.ent (s : LS) (i : Nat) : Str × Option Int := s.ents.getD i ("", none)
def LS.told (s : LS) (r u : Int) : List Nat := s.got ((getA s.seats r).getD 0) u
def LS.reads (s : LS) (r u : Int) (l : List Nat) : List (Str × Int) := (l.map s.ent).foldl tabStep ((getA s.tabs r).getD [])
def LS.read (s : LS) (r u : Int) : LS := LS.endEv { s with tabs := putA s.tabs r (s.reads r u (s.told r u)), seats := putA s.seats r u }
theorem tabStep_len (t : List (Str × Int)) (e : Str × Option Int) : (tabStep t e).length ≤ t.length + 1 := by
  unfold tabStep
  split
  · exact putA_len _ _ _
  · unfold delA
    exact Nat.le_trans (List.length_filter_le _ _) (Nat.le_succ _)
theorem tabs_len : ∀ (l : List (Str × Option Int)) (t : List (Str × Int)), (l.foldl tabStep t).length ≤ t.length + l.length
  | [], t => by simp
  | e :: l, t => by
    rw [List.foldl_cons, List.length_cons]
    have := tabs_len l (tabStep t e)
    have := tabStep_len t e
    omega
theorem told_len (s : LS) (r u : Int) : (s.told r u).length ≤ s.ents.length := Nat.le_trans (List.length_filter_le _ _) (here_len s _)
theorem tab_get {H : Hp} {a : Addr} {l : List (Str × Int)} (h : H a = some (.dK (tabV l))) (r : Str) : DGet H a (.str r) ((getA l r).map V.int) := by
  have q := DGet.k (k := .inr r) h
  rw [show valV (tabV l) (.inr r) = (getA l r).map V.int from get_map Sum.inr inr_inj V.int l r] at q
  exact q
theorem tab_put {H : Hp} {a : Addr} {l : List (Str × Int)} (h : H a = some (.dK (tabV l))) (hl : l.length < 100000) (r : Str) (q : Int) : DPut H a (.str r) (.int q) (upd H a (.dK (tabV (putA l r q)))) := by
  have z := DPut.k (k := .inr r) (v := .int q) h (WK.sz' (by unfold tabV; rw [List.length_map]; exact hl))
  rw [show putK (tabV l) (.inr r) (.int q) = tabV (putA l r q) from put_map Sum.inr inr_inj V.int l r q] at z
  exact z
theorem del_none {l : List (Str × Int)} {r : Str} (h : getA l r = none) : delA l r = l := by
  unfold delA
  refine List.filter_eq_self.mpr fun p hp => ?_
  refine decide_eq_true fun e => ?_
  unfold getA at h
  cases q : l.find? (fun p => decide (p.1 = r)) with
  | none => exact absurd (decide_eq_true e) (by simpa using List.find?_eq_none.mp q p hp)
  | some y => rw [q] at h; cases h
def spRead (C : Addr) : Sp := fun vs H Q _ => ∃ (p : Addr) (A : LA) (L : List (Int × Addr)) (s : LS) (r u z : Int) (n : Nat), vs = [.ref p, .int r, .int u] ∧ LogAt C H p A L s ∧ s.Ok n ∧ n ≤ 200 ∧ getA s.seats r = some z ∧ (∃ tb, getA s.tabs r = some tb) ∧ z < u ∧ u ≤ s.ents.length ∧
  ∀ l xs H', Gr (own p A (L.map (·.2))) H H' → LogAt C H' p A L (s.read r u) → H l = none → H' l = some (.lst xs) → Tps H' xs ((s.told r u).map s.row) → Q (.ref l) H'
abbrev s_Log_read : Stmt := inClass (topS 6) 7
abbrev N_Log_read : List Str := ["self", "reader", "upto", "start", "got", "table", "_", "key", "value", "entry"]
abbrev ps_Log_read : List Str := ["self", "reader", "upto"]
theorem sc_Log_read : FnScope N_Log_read ps_Log_read (defScope s_Log_read) := ⟨rfl, rfl, rfl, by decide +kernel, rfl, by decide +kernel, by decide +kernel⟩
theorem has_logread {C : Addr} (D : DfM K C "read" "Log.read" s_Log_read ps_Log_read) (T : Txt mg) (W : LogC K C) (G_Log__check_joined : HasM P w K mg base C 1 "_check_joined" ps_Log__check_joined (spCheck C)) (G_Log_there : HasM P w K mg base C 1 "there" ps_Log_there (spThere C)) (G_Log__end_event : HasM P w K mg base C 3 "_end_event" ps_Log__end_event (spEnd C)) :
    HasM P w K mg base C 4 "read" ps_Log_read (spRead C) := HasM.mk' D fun f fd F => by
  have CL_Log := W.cl
  refine F.ok sc_Log_read (fun vs H Q E h => ?_) (fun cdv A' outer s' H vs Q E hr h => ?_)
  · obtain ⟨p, A, L, s, r, u, z, n, rfl, _⟩ := h
    rfl
  · obtain ⟨p, A, L, s, r, u, z, n, rfl, hl, ok, hn, hz, ⟨tb, ht⟩, zu, ul, q⟩ := h
    refine ⟨_, (pss_cons (ps_expr (pe_methH (pv 0) G_Log__check_joined CL_Log (hr.mono (by decide)) (pa_cons (pv 1) pa_nil)))
(pss_cons (ps_set (i := 3) sc_Log_read.nd rfl (Or.inr rfl) (pe_dget (hu_of hr) (pe_fld (pv 0) rfl) (pv 1) (fun _ _ => rfl)))
(pss_cons (ps_if (pt_not (pt_chain op_lt op_le (pv 3) (pv 2) (pe_callB (call_len_seqK (K := K)) (by rfl) T.m_len (by decide +kernel) (pa_cons (pe_fld (pv 0) rfl) pa_nil))))
  (pss_one ps_never)
  pss_nil)
(pss_cons (ps_setLc (i := 4) (own := [("entry", 9)]) (g := gName 9)  rfl sc_Log_read.nd rfl rfl (sw_true rfl rfl rfl (by decide +kernel)) (pi_list (pe_meth0H (pv 0) G_Log_there CL_Log (hr.mono (by decide)))) (blkOk_by (own := [("entry", 9)]) (N := N_Log_read) (sc := defScope s_Log_read) (by decide +kernel)) (fun _ _ _ _ _ => pg_name (i := 9) sc_Log_read.nd rfl (Or.inl rfl)) (fun _ _ _ _ _ => pts_one (pt_chain op_le op_lt (pv 3) (pe_ix (ix_tupK (K := K)) (pv 9) pe_int (fun _ _ => rfl)) (pv 2))) (fun _ _ _ _ _ => (pv 9)))
(pss_cons (ps_set (i := 5) sc_Log_read.nd rfl (Or.inl rfl) (pe_dget (hu_of hr) (pe_fld (pv 0) rfl) (pv 1) (fun _ _ => rfl)))
(pss_cons (ps_for PassesOwn.never rfl (pi_list (pv 4)) (pg_tup rfl (pgs_cons (pg_name (i := 6) sc_Log_read.nd rfl (Or.inl rfl)) (pgs_cons (pg_name (i := 7) sc_Log_read.nd rfl (Or.inl rfl)) (pgs_cons (pg_name (i := 8) sc_Log_read.nd rfl (Or.inl rfl)) pgs_nil))))
  (pss_one (ps_if (pt_cmpR op_notN (pv 8) pe_non (nomark _))
    (pss_one (ps_dput (hu_of hr) (pv 5) (pv 7) (pv 8) rfl))
    (pss_one (ps_if (pt_cmp (pc_din (hu_of hr) (pv 7) (pv 5)))
      (pss_one (ps_ddel (pv 5) (pv 7)))
      pss_nil)))))
(pss_cons (ps_dput (hu_of hr) (pe_fld (pv 0) rfl) (pv 1) (pv 2) rfl)
(pss_cons (ps_expr (pe_meth0H (pv 0) G_Log__end_event CL_Log (hr.mono (by decide))))
(pss_one (ps_ret (pv 4))))))))))), ?_⟩
    have h10 := ok.en
    obtain ⟨dx, ho⟩ := hl.ob
    obtain ⟨es, en1, en2⟩ := id hl.en
    have el : es.length = s.ents.length := by rw [en2.length, List.length_map]
    refine WK.w_seq ?_
    refine WK.w_drop ?_
    refine WK.w_meth rfl ho lF_none ?_
    walk_at "w"
    refine ⟨p, A, L, s, r, z, rfl, hl, hz, ?_⟩
    walk_at "w"
    refine hl.fnS W rfl ?_
    walk_at "w"
    have hg := seats_get hl.se r
    rw [hz] at hg
    refine ⟨A.se, _, rfl, hg, ?_⟩
    walk_at "w"
    walk_at "i"
    refine WK.w_chain ?_
    walk_at "w"
    refine WK.w_2 (fun _ => ?_) (fun no => (no zu).elim)
    refine hl.fnE W rfl ?_
    walk_at "w"
    rw [el]
    refine WK.w_ifN (by simp [ul]) ?_
    walk_at "w"
    refine WK.w_meth rfl ho lF_none ?_
    walk_at "w"
    refine ⟨p, A, L, s, rfl, hl, ok.up (by omega), fun l xs H1 g1 nl hl1 t1 => ?_⟩
    have tl : xs.length = s.there.length := by rw [t1.length, List.length_map]
    have tn : s.there.length ≤ 200 := Nat.le_trans (here_len s _) (by omega)
    walk_at "w"
    refine ⟨⟨xs, SqL.of hl1⟩, ?_⟩
    have zz : (getA s.seats r).getD 0 = z := by rw [hz]; rfl
    refine lc_go (walk_list (K := K) (a := l) (xs := xs)) (fun Dn j acc H' => Gr [] H1 H' ∧ Tps H' acc (((s.there.take j).filter (inR z u)).map s.row)) (fun Dn nD => ⟨Gr.new nD, .nil⟩) (fun Dn j acc H' _ ⟨g, _⟩ => SqL.of (g.k0 hl1)) ?_ ?_
    · rintro Dn j acc x H2 H3 nD hj hD la ⟨g2, t2⟩ ⟨rfl, hx⟩
      obtain ⟨y, f1, c, rfl, f2⟩ := pr_get t1 hx
      obtain ⟨i, hi, rfl⟩ : ∃ i, s.there[j]? = some i ∧ y = s.row i := by
        rw [List.getElem?_map] at f1
        cases e : s.there[j]? with
        | none => rw [e] at f1; cases f1
        | some i => rw [e] at f1; exact ⟨i, rfl, (Option.some.inj f1).symm⟩
      have f3 : _ = some (HO.tup [V.int i, .str (s.ents.getD i ("", none)).1, optV (s.ents.getD i ("", none)).2]) := g2.tup _ _ f2
      have tk : s.there.take (j + 1) = s.there.take j ++ [i] := take_snoc hi
      walk_at "w"
      refine ⟨rfl, ?_⟩
      walk_at "w"
      refine WK.w_chain ?_
      walk_at "w"
      have done_no : inR z u i = false → Tps H3 acc (((s.there.take (j + 1)).filter (inR z u)).map s.row) := fun no => by
        rw [tk, List.filter_append, List.filter_cons, no]
        simpa using t2
      refine WK.w_2 (fun h1 => ?_) (fun h1 => ?_)
      · walk_at "w"
        refine WK.w_2 (fun h2 => ?_) (fun h2 => ?_)
        · walk_at "w"
          have gD : Gr [Dn] H3 (upd H3 Dn (.lst (acc ++ [.ref c]))) := Gr.mutL hD (by simp)
          refine lc_yes hD la (by omega) ⟨g2.own gD nD, ?_⟩
          rw [tk, List.filter_append, List.map_append, List.filter_cons, show inR z u i = true from by unfold inR; rw [decide_eq_true h1, decide_eq_true h2]; rfl]
          exact pr_append (t2.gr gD) (.cons ⟨c, rfl, gD.tup _ _ f3⟩ .nil)
        · exact lc_no hD la ⟨g2, done_no (by unfold inR; rw [decide_eq_false h2, Bool.and_false])⟩
      · walk_at "w"
        refine WK.w_ifN (by decide) (lc_no hD la ⟨g2, done_no (by unfold inR; rw [decide_eq_false h1, Bool.false_and])⟩)
    · rintro G acc H2 nG hG la ⟨g2, t2⟩
      have told : (s.there.take xs.length).filter (inR z u) = s.told r u := by
        rw [tl, List.take_length]
        unfold LS.told LS.got
        rw [zz]
      rw [told] at t2
      have g02 := g1.trans g2
      have nG0 : H G = none := g1.live _ nG
      have l2 := hl.k0 g02
      walk_at "w"
      obtain ⟨a, ga, ha⟩ := td_get l2.td ht
      have am := getA_mem ga
      refine l2.fnA W rfl ?_
      walk_at "w"
      have gt := tabs_get l2.ta r
      rw [ga] at gt
      refine ⟨A.ta, _, rfl, gt, ?_⟩
      walk_at "w"
      refine ⟨⟨acc, SqL.of hG⟩, ?_⟩
      have Gn : G ∉ own p A (L.map (·.2)) := (hl.k0 g1).live nG
      have kn : (s.tabs.map (·.1)).Nodup := by rw [← td_keys l2.td]; exact l2.kn
      have tb0 : (getA s.tabs r).getD [] = tb := by rw [ht]; rfl
      have tbl : tb.length ≤ n * n := ok.tw _ (getA_mem ht)
      refine lp_list (xs := acc) (fun i σ' H' => ∃ y6 y7 y8 y9, σ' = [some (.ref p), some (.int r), some (.int u), some (.int z), some (.ref G), some (.ref a), y6, y7, y8, y9] ∧ Gr (own p A (L.map (·.2))) H2 H' ∧ LogAt C H' p A L { s with tabs := putA s.tabs r (s.reads r u ((s.told r u).take i)) })
        ⟨none, none, none, none, rfl, Gr.refl _ _, ?_⟩ (fun i σ' H' _ ⟨_, _, _, _, _, g, _⟩ => SqL.of (g.keep _ _ Gn hG)) ?_ ?_
      · have e : putA s.tabs r (s.reads r u ((s.told r u).take 0)) = s.tabs := put_get kn (by rw [ht]; unfold LS.reads; rw [tb0]; rfl)
        rw [e]
        exact l2
      · rintro i x _ H3 hi ⟨y6, y7, y8, y9, rfl, g3, l3⟩
        obtain ⟨y, f1, c, rfl, f2⟩ := pr_get t2 hi
        obtain ⟨k, hk, rfl⟩ : ∃ k, (s.told r u)[i]? = some k ∧ y = s.row k := by
          rw [List.getElem?_map] at f1
          cases e : (s.told r u)[i]? with
          | none => rw [e] at f1; cases f1
          | some k => rw [e] at f1; exact ⟨k, rfl, (Option.some.inj f1).symm⟩
        have f3 : _ = some (HO.tup [V.int k, .str (s.ent k).1, optV (s.ent k).2]) := g3.tup _ _ f2
        have il : i < 200 := Nat.lt_of_lt_of_le (List.getElem?_eq_some_iff.mp hk).1 (Nat.le_trans (told_len s r u) (by omega))
        have tk : s.reads r u ((s.told r u).take (i + 1)) = tabStep (s.reads r u ((s.told r u).take i)) (s.ent k) := by
          unfold LS.reads
          rw [take_snoc hk, List.map_append, List.foldl_append]
          rfl
        rw [tk]
        have tll : (s.reads r u ((s.told r u).take i)).length < 90000 := by
          have h1 := tabs_len (((s.told r u).take i).map s.ent) ((getA s.tabs r).getD [])
          rw [tb0, List.length_map, List.length_take] at h1
          have h2 : n * n ≤ 200 * 200 := sq_le hn
          unfold LS.reads
          rw [tb0]
          omega
        generalize s.reads r u ((s.told r u).take i) = t at *
        generalize s.ent k = e at *
        obtain ⟨key, o⟩ := e
        obtain ⟨a', ga', ha'⟩ := td_get l3.td (show getA (putA s.tabs r t) r = some t from getA_put _ _ _)
        rw [ga] at ga'
        cases ga'
        walk_at "w"
        walk_at "i"
        cases o with
        | some v =>
          refine WK.w_ifP (by simp [optV]) ?_
          dsimp only [optV]
          walk_at "w"
          refine ⟨a, _, rfl, tab_put ha' (by omega) key v, ?_⟩
          obtain ⟨l4, g4⟩ := l3.setTab am (putA t key v)
          dsimp only at l4
          rw [put_put] at l4
          exact ⟨_, _, _, _, rfl, g3.trans g4, l4⟩
        | none =>
          refine WK.w_ifN (by decide) ?_
          dsimp only [optV]
          walk_at "i"
          refine ⟨a, _, rfl, tab_get ha' key, ?_⟩
          walk_at "w"
          cases eg : getA t key with
          | none =>
            refine WK.w_ifN (by simp) ?_
            refine ⟨_, _, _, _, rfl, g3, ?_⟩
            rw [show tabStep t (key, none) = t from del_none eg]
            exact l3
          | some v =>
            refine WK.w_ifP rfl ?_
            refine ⟨_, rfl, _, rfl, a, tabV t, .inr key, rfl, ha', rfl, ?_, ?_⟩
            · rw [show valV (tabV t) (.inr key) = (getA t key).map V.int from get_map Sum.inr inr_inj V.int t key, eg]
              rfl
            · rw [show dropK (tabV t) (.inr key) = tabV (delA t key) from del_map Sum.inr inr_inj V.int t key]
              obtain ⟨l4, g4⟩ := l3.setTab am (delA t key)
              dsimp only at l4
              rw [put_put] at l4
              exact ⟨_, _, _, _, rfl, g3.trans g4, l4⟩
      · rintro σ2 H3 ⟨y6, y7, y8, y9, rfl, g3, l3⟩
        have fin : (s.told r u).take acc.length = s.told r u := by
          rw [t2.length, List.length_map, List.take_length]
        rw [fin] at l3
        walk_at "w"
        refine l3.fnS W rfl ?_
        walk_at "w"
        have sl := ok.sl
        refine ⟨A.se, _, rfl, seats_put l3.se (by show s.seats.length ≤ 1000; omega) r u, ?_⟩
        obtain ⟨l4, g4⟩ := l3.setSe (putA s.seats r u)
        show (tSeq _ _) _ _ (upd H3 A.se (.dK (seatsV (putA s.seats r u))))
        generalize (upd H3 A.se (.dK (seatsV (putA s.seats r u)))) = H4 at *
        walk_at "w"
        obtain ⟨dx4, ho4⟩ := l4.ob
        refine WK.w_meth rfl ho4 lF_none ?_
        have rl : (s.reads r u (s.told r u)).length ≤ (n + 1) * (n + 1) := by
          have h1 := tabs_len ((s.told r u).map s.ent) ((getA s.tabs r).getD [])
          rw [tb0, List.length_map] at h1
          have h2 := told_len s r u
          unfold LS.reads
          rw [tb0]
          have : (n + 1) * (n + 1) = n * n + 2 * n + 1 := by rw [Nat.add_mul, Nat.mul_add]; omega
          omega
        refine ⟨p, A, L, _, rfl, l4, (ok.seat r u (s.reads r u (s.told r u)) ⟨?_, ul⟩ rl).up (by omega), fun H5 g5 l5 => ?_⟩
        · have := ok.s0 _ (getA_mem hz)
          dsimp only at this
          omega
        walk_at "w"
        have g25 := (g3.trans g4).trans g5
        exact q G acc H5 (g02.nw g25) l5 nG0 (g25.keep _ _ Gn hG) (t2.gr g25)

end
end PK
namespace PK
open PySem L2
section
variable {P : Program} {w : World} {K : PySem.W.Frag} {mg : Str → Option Value} {base : Heap}
/-- what a sweep goes through with: which entries are gone, since when covered, the keys met -/
structure SW where
  gone : List Bool
  since : List (Option Int)
  later : List (Str × Bool)
def SW.look (s : LS) (x : SW) (i : Nat) : SW :=
  ⟨if (getA x.later (s.ent i).1).isSome = true then x.gone.set i true else x.gone, if x.since.getD i none = none then x.since.set i (some s.time) else x.since, putA x.later (s.ent i).1 true⟩
def LS.swept (s : LS) (m j : Nat) : SW := ((List.range j).map fun i => m - 1 - i).foldl (SW.look s) ⟨s.gone, s.since, []⟩
def LS.sweep (s : LS) (u : Int) : LS := LS.marks { s with gone := (s.swept u.toNat u.toNat).gone, since := (s.swept u.toNat u.toNat).since }
def metV (l : List (Str × Bool)) : List (Key × V) := l.map fun p => (Sum.inr p.1, V.bl p.2)
theorem met_get {H : Hp} {a : Addr} {l : List (Str × Bool)} (h : H a = some (.dK (metV l))) (r : Str) : DGet H a (.str r) ((getA l r).map V.bl) := by
  have q := DGet.k (k := .inr r) h
  rw [show valV (metV l) (.inr r) = (getA l r).map V.bl from get_map Sum.inr inr_inj V.bl l r] at q
  exact q
theorem met_put {H : Hp} {a : Addr} {l : List (Str × Bool)} (h : H a = some (.dK (metV l))) (hl : l.length < 100000) (r : Str) (q : Bool) : DPut H a (.str r) (.bl q) (upd H a (.dK (metV (putA l r q)))) := by
  have z := DPut.k (k := .inr r) (v := .bl q) h (WK.sz' (by unfold metV; rw [List.length_map]; exact hl))
  rw [show putK (metV l) (.inr r) (.bl q) = metV (putA l r q) from put_map Sum.inr inr_inj V.bl l r q] at z
  exact z
theorem look_len (s : LS) (x : SW) (i : Nat) : (x.look s i).gone.length = x.gone.length ∧ (x.look s i).since.length = x.since.length ∧ (x.look s i).later.length ≤ x.later.length + 1 := by
  unfold SW.look
  refine ⟨?_, ?_, putA_len _ _ _⟩
  · dsimp only; split
    · rw [List.length_set]
    · rfl
  · dsimp only; split
    · rw [List.length_set]
    · rfl
theorem looks_len (s : LS) : ∀ (l : List Nat) (x : SW), (l.foldl (SW.look s) x).gone.length = x.gone.length ∧ (l.foldl (SW.look s) x).since.length = x.since.length ∧ (l.foldl (SW.look s) x).later.length ≤ x.later.length + l.length
  | [], x => ⟨rfl, rfl, Nat.le_refl _⟩
  | i :: l, x => by
    rw [List.foldl_cons, List.length_cons]
    have h1 := looks_len s l (x.look s i)
    have h2 := look_len s x i
    exact ⟨h1.1.trans h2.1, h1.2.1.trans h2.2.1, by omega⟩
theorem swept_len (s : LS) (m j : Nat) : (s.swept m j).gone.length = s.gone.length ∧ (s.swept m j).since.length = s.since.length ∧ (s.swept m j).later.length ≤ j := by
  have h := looks_len s ((List.range j).map fun i => m - 1 - i) ⟨s.gone, s.since, []⟩
  rw [List.length_map, List.length_range] at h
  exact ⟨h.1, h.2.1, Nat.le_trans h.2.2 (by simp)⟩
theorem LS.Ok.swept {s : LS} {n : Nat} (k : s.Ok n) (m j : Nat) : LS.Ok { s with gone := (s.swept m j).gone, since := (s.swept m j).since } n :=
  ⟨(swept_len s m j).1.trans k.eg, (swept_len s m j).2.1.trans k.es, k.en, k.s0, k.sl, k.tl, k.c0, k.cl, k.g0, k.tw, k.cw⟩
theorem LS.Ok.swept' {s : LS} {n : Nat} (k : s.Ok n) (u : Int) : (s.sweep u).Ok n := (k.swept _ _).marks
def LS.went (s : LS) (u : Int) (i : Nat) : Bool := (s.sweep u).gone.getD i false && !s.gone.getD i false
def spSweep (C : Addr) : Sp := fun vs H Q _ => ∃ (p : Addr) (A : LA) (L : List (Int × Addr)) (s : LS) (u : Int), vs = [.ref p, .int u] ∧ LogAt C H p A L s ∧ s.Ok 1000 ∧ 0 ≤ u ∧ u ≤ s.ents.length ∧
  ∀ l H', Gr (own p A (L.map (·.2))) H H' → LogAt C H' p A L (s.sweep u) → H l = none → H' l = some (.lst (((List.range s.ents.length).filter (s.went u)).map fun (i : Nat) => V.int i)) → Q (.ref l) H'
abbrev s_Log_sweep : Stmt := inClass (topS 6) 12
abbrev N_Log_sweep : List Str := ["self", "point", "before", "later", "place", "key"]
abbrev ps_Log_sweep : List Str := ["self", "point"]
theorem sc_Log_sweep : FnScope N_Log_sweep ps_Log_sweep (defScope s_Log_sweep) := ⟨rfl, rfl, rfl, by decide +kernel, rfl, by decide +kernel, by decide +kernel⟩
theorem has_logsweep {C : Addr} (D : DfM K C "sweep" "Log.sweep" s_Log_sweep ps_Log_sweep) (T : Txt mg) (W : LogC K C) (G_Log__let_marks_go : HasM P w K mg base C 2 "_let_marks_go" ps_Log__let_marks_go (spMarks C)) :
    HasM P w K mg base C 3 "sweep" ps_Log_sweep (spSweep C) := HasM.mk' D fun f fd F => by
  have CL_Log := W.cl
  refine F.ok sc_Log_sweep (fun vs H Q E h => ?_) (fun cdv A' outer s' H vs Q E hr h => ?_)
  · obtain ⟨p, A, L, s, u, rfl, _⟩ := h
    rfl
  · obtain ⟨p, A, L, s, u, rfl, hl, ok, u0, ul, q⟩ := h
    refine ⟨_, (pss_cons (ps_if (pt_not (pt_chain op_le op_le pe_int (pv 1) (pe_callB (call_len_seqK (K := K)) (by rfl) T.m_len (by decide +kernel) (pa_cons (pe_fld (pv 0) rfl) pa_nil))))
  (pss_one ps_never)
  pss_nil)
(pss_cons (ps_set (i := 2) sc_Log_sweep.nd rfl (Or.inr rfl) (pe_callTy (call_list_ofK (K := K)) (by rfl) T.m_list (by decide +kernel) (pa_cons (pe_fld (pv 0) rfl) pa_nil)))
(pss_cons (ps_set (i := 3) sc_Log_sweep.nd rfl (Or.inl rfl) pe_dnewK)
(pss_cons (ps_for PassesOwn.never rfl (pi_revR (by rfl) T.m_reversed (prg_1 (by rfl) T.m_range (pv 1))) (pg_name (i := 4) sc_Log_sweep.nd rfl (Or.inl rfl))
  (pss_cons (ps_set (i := 5) sc_Log_sweep.nd rfl (Or.inl rfl) (pe_ix (ix_tupK (K := K)) (pe_ix (ix_listK (K := K)) (pe_fld (pv 0) rfl) (pv 4) (fun _ _ => rfl)) pe_int (fun _ _ => rfl)))
  (pss_cons (ps_if (pt_cmp (pc_din (hu_of hr) (pv 5) (pv 3)))
    (pss_one (ps_asg pe_bl (pg_sub (pe_fld (pv 0) rfl) (pv 4) set_list)))
    pss_nil)
  (pss_cons (ps_dput (hu_of hr) (pv 3) (pv 5) pe_bl rfl)
  (pss_one (ps_if (pt_cmpR op_isN (pe_ix (ix_listK (K := K)) (pe_fld (pv 0) rfl) (pv 4) (fun _ _ => rfl)) pe_non (nomark _))
    (pss_one (ps_asg (pe_fld (pv 0) rfl) (pg_sub (pe_fld (pv 0) rfl) (pv 4) set_list)))
    pss_nil))))))
(pss_cons (ps_expr (pe_meth0H (pv 0) G_Log__let_marks_go CL_Log (hr.mono (by decide))))
(pss_one (ps_ret (pe_lc (own := [("place", 4)]) (g := gName 4)  rfl sc_Log_sweep.nd (pi_range1 (by rfl) T.m_range (pa_cons (pe_callB (call_len_seqK (K := K)) (by rfl) T.m_len (by decide +kernel) (pa_cons (pv 2) pa_nil)) pa_nil)) (blkOk_by (own := [("place", 4)]) (N := N_Log_sweep) (sc := defScope s_Log_sweep) (by decide +kernel)) (fun _ _ _ _ _ => pg_name (i := 4) sc_Log_sweep.nd rfl (Or.inl rfl)) (fun _ _ _ _ _ => pts_one (PW.pt (pw_and (pt_val (pe_ix (ix_listK (K := K)) (pe_fldK (K := K) (pv 0) rfl) (pv 4) (fun _ _ => rfl))) (pw_and1 (pt_not (pt_val (pe_ix (ix_listK (K := K)) (pv 2) (pv 4) (fun _ _ => rfl)))))))) (fun _ _ _ _ _ => (pv 4)))))))))), ?_⟩
    have h10 := ok.en
    obtain ⟨es, en1, en2⟩ := id hl.en
    have el : es.length = s.ents.length := by rw [en2.length, List.length_map]
    walk_at "w"
    walk_at "i"
    refine WK.w_chain ?_
    walk_at "w"
    refine WK.w_2 (fun _ => ?_) (fun no => (no u0).elim)
    refine hl.fnE W rfl ?_
    walk_at "w"
    rw [el]
    refine WK.w_ifN (by simp [ul]) ?_
    walk_at "w"
    refine hl.fnO W rfl ?_
    walk_at "w"
    refine ⟨A.go, _, rfl, .inl (SqL.of hl.go), fun bf nb => ?_⟩
    have g1 : Gr [] H (upd H bf (.lst (s.gone.map V.bl))) := Gr.new nb
    have eb : (upd H bf (.lst (s.gone.map V.bl))) bf = some (.lst (s.gone.map V.bl)) := upd_same
    have l1 := hl.k0 g1
    have n1 := hl.live nb
    generalize (upd H bf (.lst (s.gone.map V.bl))) = H1 at *
    walk_at "w"
    intro lt nt
    have g2 : Gr [] H1 (upd H1 lt (.dK [])) := Gr.new nt
    have et : (upd H1 lt (.dK [])) lt = some (.dK (metV [])) := upd_same
    have l2 := l1.k0 g2
    have n2 := l1.live nt
    have eb2 := g2.k0 eb
    generalize (upd H1 lt (.dK [])) = H2 at *
    walk_at "w"
    refine ⟨_, rfl, u, rfl, by omega, by omega, by omega, by omega, ?_⟩
    obtain ⟨m, rfl⟩ : ∃ m : Nat, u = (m : Int) := ⟨u.toNat, by omega⟩
    have nbt : lt ≠ bf := fun e => by rw [e, eb] at nt; cases nt
    rw [show (((m : Int) - 0).toNat) = m from by omega]
    refine lp_it (walk_rangeC) (fun i σ' H' => ∃ y4 y5, σ' = [some (.ref p), some (.int m), some (.ref bf), some (.ref lt), y4, y5] ∧ Gr (lt :: own p A (L.map (·.2))) H2 H' ∧ H' lt = some (.dK (metV (s.swept m i).later)) ∧ LogAt C H' p A L { s with gone := (s.swept m i).gone, since := (s.swept m i).since })
      ⟨none, none, rfl, Gr.refl _ _, et, l2⟩ (fun _ _ _ _ _ => trivial) ?_ ?_
    · rintro i x _ H3 H4 hi ⟨y4, y5, rfl, g3, e3, l3⟩ ⟨rfl, rfl⟩
      have im : i < m := hi
      obtain ⟨j, hj⟩ : ∃ j : Nat, j = m - 1 - i := ⟨_, rfl⟩
      have jl : j < s.ents.length := by omega
      have ej : (0 + (m : Int) - 1 + (i : Int) * -1) = (j : Int) := by omega
      have sw : s.swept m (i + 1) = (s.swept m i).look s j := by
        unfold LS.swept
        rw [List.range_succ, List.map_append, List.foldl_append, hj]
        rfl
      obtain ⟨w1, w2, w3⟩ := swept_len s m i
      rw [sw]
      generalize s.swept m i = x at *
      rw [ok.eg] at w1
      rw [ok.es] at w2
      obtain ⟨es3, en3, em3⟩ := id l3.en
      have eE : s.ents[j]? = some s.ents[j] := List.getElem?_eq_getElem jl
      have eN : s.ent j = s.ents[j] := getD_of eE
      obtain ⟨v, ev1, c, rfl, ev2⟩ := pr_get' (i := j) em3 (y := [V.str s.ents[j].1, optV s.ents[j].2]) (by rw [List.getElem?_map]; show Option.map _ s.ents[j]? = _; rw [eE]; rfl)
      have sE : x.since[j]? = some (x.since[j]'(by omega)) := List.getElem?_eq_getElem _
      generalize s.ents[j] = e at *
      generalize (x.since[j]'(by omega)) = sn at *
      obtain ⟨key, o⟩ := e
      dsimp only
      rw [ej]
      walk_at "w"
      refine l3.fnE W rfl ?_
      walk_at "w"
      refine WK.w_ixL en3 ev1 ?_
      walk_at "w"
      refine WK.w_genS (t := tIfS _ _ _) (fun σ' H' => σ' = [some (.ref p), some (.int m), some (.ref bf), some (.ref lt), some (.int j), some (.str key)] ∧ Gr (lt :: own p A (L.map (·.2))) H2 H' ∧ H' lt = some (.dK (metV x.later)) ∧ LogAt C H' p A L { s with gone := if (getA x.later key).isSome = true then x.gone.set j true else x.gone, since := x.since }) ?_ ?_
      · rintro _ H5 ⟨rfl, g5, e5, l5⟩
        have lat : (x.look s j).later = putA x.later key true := by unfold SW.look; rw [eN]
        have gon : (x.look s j).gone = if (getA x.later key).isSome = true then x.gone.set j true else x.gone := by unfold SW.look; rw [eN]
        have sin : (x.look s j).since = if sn = none then x.since.set j (some s.time) else x.since := by unfold SW.look; rw [getD_of sE]
        rw [lat, gon, sin]
        generalize (if (getA x.later key).isSome = true then x.gone.set j true else x.gone) = gone at *
        walk_at "w"
        refine ⟨lt, _, rfl, met_put e5 (by omega) key true, ?_⟩
        have g6 : Gr [lt] H5 (upd H5 lt (.dK (metV (putA x.later key true)))) := Gr.mutD e5 (by simp)
        have e6 : (upd H5 lt (.dK (metV (putA x.later key true)))) lt = some (.dK (metV (putA x.later key true))) := upd_same
        have l6 := l5.keep g6 (fun a ha hm => n2 (by rw [← List.mem_singleton.mp hm]; exact ha))
        have g26 := g5.trans (g6.mono (by simp))
        generalize (upd H5 lt (.dK (metV (putA x.later key true)))) = H6 at *
        walk_at "w"
        walk_at "i"
        refine l6.fnI W rfl ?_
        walk_at "w"
        refine WK.w_ixL l6.si (by rw [List.getElem?_map]; show Option.map optV x.since[j]? = _; rw [sE]; rfl) ?_
        walk_at "w"
        cases sn with
        | some z =>
          refine WK.w_ifN (by simp [optV]) ?_
          exact ⟨_, _, rfl, g26, e6, l6⟩
        | none =>
          refine WK.w_ifP (by decide) ?_
          walk_at "w"
          refine l6.fnT W rfl ?_
          walk_at "w"
          refine l6.fnI W rfl ?_
          walk_at "w"
          refine WK.w_setL l6.si (by rw [List.length_map]; show j < x.since.length; omega) ?_
          have em : (x.since.map optV).set j (.int s.time) = (x.since.set j (some s.time)).map optV := by rw [List.map_set]; rfl
          obtain ⟨l7, g7⟩ := l6.setSi (x.since.set j (some s.time))
          have nt7 : lt ≠ A.si := fun z => n2 (by rw [z]; simp [own])
          show ∃ y4 y5, _ ∧ Gr (lt :: own p A (L.map (·.2))) H2 (upd H6 A.si (.lst ((x.since.map optV).set j (.int s.time)))) ∧ _
          rw [em]
          exact ⟨_, _, rfl, g26.trans (g7.mono (by intro a ha; exact List.mem_cons_of_mem _ ha)), by rw [upd_ne nt7]; exact e6, l7⟩
      · intro D' _ _ _ go
        walk_at "i"
        refine ⟨lt, _, rfl, met_get e3 key, ?_⟩
        walk_at "w"
        cases eg : getA x.later key with
        | none =>
          refine WK.w_ifN (by simp) ?_
          refine go _ _ ⟨rfl, g3, e3, ?_⟩
          rw [eg]
          exact l3
        | some z =>
          refine WK.w_ifP rfl ?_
          walk_at "w"
          refine l3.fnO W rfl ?_
          walk_at "w"
          refine WK.w_setL l3.go (by rw [List.length_map]; show j < x.gone.length; omega) ?_
          have em : (x.gone.map V.bl).set j (.bl true) = (x.gone.set j true).map V.bl := by rw [List.map_set]
          obtain ⟨l7, g7⟩ := l3.setGo (x.gone.set j true)
          have nt7 : lt ≠ A.go := fun z => n2 (by rw [z]; simp [own])
          refine go _ _ ⟨rfl, ?_⟩
          show Gr (lt :: own p A (L.map (·.2))) H2 (upd H4 A.go (.lst ((x.gone.map V.bl).set j (.bl true)))) ∧ _
          rw [em, eg]
          exact ⟨g3.trans (g7.mono (by intro a ha; exact List.mem_cons_of_mem _ ha)), by rw [upd_ne nt7]; exact e3, l7⟩
    · rintro σ2 H3 ⟨y4, y5, rfl, g3, e3, l3⟩
      walk_at "w"
      obtain ⟨dx3, ho3⟩ := l3.ob
      refine WK.w_meth rfl ho3 lF_none ?_
      refine ⟨p, A, L, _, rfl, l3, ok.swept m m, fun H4 g4 l4 => ?_⟩
      have l4 : LogAt C H4 p A L (s.sweep m) := l4
      have ok4 : (s.sweep m).Ok 1000 := ok.swept' m
      have ge : (s.sweep m).ents = s.ents := rfl
      have bn : bf ∉ lt :: own p A (L.map (·.2)) := fun hm => (List.mem_cons.mp hm).elim (fun z => nbt z.symm) n1
      have b4 := g4.keep _ _ n1 (g3.keep _ _ bn eb2)
      have n2' : H lt = none := g1.live _ nt
      have gA : Gr (own p A (L.map (·.2))) H H4 := by
        have z : Gr (own p A (L.map (·.2))) H H3 := ((g1.trans g2).mono (by simp)).sub (L := [lt]) g3 (by simp [n2'])
        exact z.trans g4
      have gl4 := ok4.eg
      rw [ge] at gl4
      have gl := ok.eg
      walk_at "w"
      rw [List.length_map, gl]
      refine ⟨by omega, by omega, ?_⟩
      refine lc_go (walk_range (lo := 0) (n := ((s.ents.length : Nat) : Int).toNat)) (fun Dn j acc H' => Gr [] H4 H' ∧ acc = ((List.range j).filter (s.went m)).map fun (i : Nat) => V.int i) (fun Dn nD => ⟨Gr.new nD, rfl⟩) (fun _ _ _ _ _ _ => trivial) ?_ ?_
      · rintro Dn j acc x H5 H6 nD hj hD la ⟨g5, rfl⟩ ⟨rfl, rfl⟩
        have jl : j < s.ents.length := by omega
        have l5 := l4.k0 g5
        have b5 := g5.k0 b4
        have e1 : (s.sweep m).gone[j]? = some ((s.sweep m).gone[j]'(by omega)) := List.getElem?_eq_getElem _
        have e2 : s.gone[j]? = some (s.gone[j]'(by omega)) := List.getElem?_eq_getElem _
        have wn : s.went m j = ((s.sweep m).gone[j]'(by omega) && !(s.gone[j]'(by omega))) := by unfold LS.went; rw [getD_of e1, getD_of e2]
        generalize ((s.sweep m).gone[j]'(by omega)) = x1 at *
        generalize (s.gone[j]'(by omega)) = x2 at *
        have tk : (List.range (j + 1)).filter (s.went m) = (List.range j).filter (s.went m) ++ if s.went m j = true then [j] else [] := by
          rw [List.range_succ, List.filter_append]
          congr 1
          cases h : s.went m j <;> simp [List.filter_cons, h]
        dsimp only
        rw [show (0 + (j : Int)) = (j : Int) from by omega]
        walk_at "w"
        refine ⟨rfl, ?_⟩
        walk_at "i"
        refine l5.fnO W rfl ?_
        walk_at "w"
        refine WK.w_ixL l5.go (by rw [List.getElem?_map, e1]; rfl) ?_
        walk_at "w"
        cases x1 with
        | false =>
          refine WK.w_ifN (by decide) (WK.w_ifN (by decide) (lc_no hD la ⟨g5, ?_⟩))
          rw [tk, wn]
          simp
        | true =>
          refine WK.w_ifP rfl ?_
          walk_at "w"
          refine WK.w_ixL b5 (by rw [List.getElem?_map, e2]; rfl) ?_
          walk_at "w"
          cases x2 with
          | true =>
            refine WK.w_ifN (by decide) (lc_no hD la ⟨g5, ?_⟩)
            rw [tk, wn]
            simp
          | false =>
            refine WK.w_ifP rfl ?_
            walk_at "w"
            refine lc_yes hD la (by omega) ⟨g5.own (Gr.mutL hD (by simp)) nD, ?_⟩
            rw [tk, wn, List.map_append]
            rfl
      · rintro Dn acc H5 nD hD la ⟨g5, rfl⟩
        refine q Dn H5 (gA.trans (g5.mono (by simp))) (l4.k0 g5) (gA.live _ nD) ?_
        exact hD

end
end PK
namespace PK
open PySem L2
section
variable {P : Program} {w : World} {K : PySem.W.Frag} {mg : Str → Option Value} {base : Heap}
theorem WK.w_tyD {l : Addr} {kvs : List (Key × V)} {H : Hp} {Q : Prop} (h : H l = some (.dK kvs)) (k : Q) : tyV K "dict" (.ref l) H ∧ Q := ⟨.inr (.inr (.inl ⟨rfl, .inl ⟨_, h⟩⟩)), k⟩
def LS.tab (s : LS) (r : Int) : List (Str × Int) := ordS ((getA s.tabs r).getD [])
abbrev prV (q : Str × Int) : List V := [.str q.1, .int q.2]
def spLogTable (C : Addr) : Sp := fun vs H Q _ => ∃ (p : Addr) (A : LA) (L : List (Int × Addr)) (s : LS) (r z : Int) (tb : List (Str × Int)), vs = [.ref p, .int r] ∧ LogAt C H p A L s ∧ getA s.seats r = some z ∧ getA s.tabs r = some tb ∧
  ∀ l xs H', Gr [] H H' → H l = none → H' l = some (.lst xs) → Tps H' xs ((s.tab r).map prV) → Q (.ref l) H'
abbrev s_Log_table : Stmt := inClass (topS 6) 17
abbrev N_Log_table : List Str := ["self", "reader"]
abbrev ps_Log_table : List Str := ["self", "reader"]
theorem sc_Log_table : FnScope N_Log_table ps_Log_table (defScope s_Log_table) := ⟨rfl, rfl, rfl, by decide +kernel, rfl, by decide +kernel, by decide +kernel⟩
theorem has_logtable {C : Addr} (D : DfM K C "table" "Log.table" s_Log_table ps_Log_table) (T : Txt mg) (W : LogC K C) (G_Log__check_joined : HasM P w K mg base C 1 "_check_joined" ps_Log__check_joined (spCheck C)) :
    HasM P w K mg base C 2 "table" ps_Log_table (spLogTable C) := HasM.mk' D fun f fd F => by
  have CL_Log := W.cl
  refine F.ok sc_Log_table (fun vs H Q E h => ?_) (fun cdv A' outer s' H vs Q E hr h => ?_)
  · obtain ⟨p, A, L, s, r, z, tb, rfl, _⟩ := h
    rfl
  · obtain ⟨p, A, L, s, r, z, tb, rfl, hl, hz, ht, q⟩ := h
    refine ⟨_, (pss_cons (ps_expr (pe_methH (pv 0) G_Log__check_joined CL_Log (hr.mono (by decide)) (pa_cons (pv 1) pa_nil)))
(pss_one (ps_ret (pe_callB (cr_sortedX rfl) (by rfl) T.m_sorted (by decide +kernel) (pa_cons (pe_bm0 PySem.F.plainAttrs_dict PySem.F.slot_dict_items PySem.F.type_dict_items mt_itemsX (pe_dget (hu_of hr) (pe_fld (pv 0) rfl) (pv 1) (fun _ _ => rfl))) pa_nil))))), ?_⟩
    obtain ⟨dx, ho⟩ := hl.ob
    refine WK.w_seq ?_
    refine WK.w_drop ?_
    refine WK.w_meth rfl ho lF_none ?_
    walk_at "w"
    refine ⟨p, A, L, s, r, z, rfl, hl, hz, ?_⟩
    walk_at "w"
    refine hl.fnA W rfl ?_
    walk_at "w"
    obtain ⟨a, ga, ha⟩ := td_get hl.td ht
    have gt := tabs_get hl.ta r
    rw [ga] at gt
    refine ⟨A.ta, _, rfl, gt, ?_⟩
    refine WK.w_tyD ha ?_
    refine ⟨a, tb, rfl, rfl, ha, fun v nv => ?_⟩
    have g1 : Gr [] H (upd H v (L2.DX.itemsO v a)) := Gr.new nv
    have ev : (upd H v (L2.DX.itemsO v a)) v = some (L2.DX.itemsO v a) := upd_same
    have ha1 := g1.k0 ha
    generalize (upd H v (L2.DX.itemsO v a)) = H1 at *
    walk_at "w"
    refine ⟨v, a, tb, rfl, ev, ha1, fun H2 l xs g2 nl hl2 t2 => ?_⟩
    exact q l xs H2 (g1.trans g2) (g1.live _ nl) hl2 (by unfold LS.tab; rw [ht]; exact t2)

end
end PK
namespace PK
open PySem L2
section
variable {P : Program} {w : World} {K : PySem.W.Frag} {mg : Str → Option Value} {base : Heap}
theorem ordS_len (l : List (Str × Int)) : (ordS l).length = l.length := (ordS_perm l).length_eq
def LS.save (s : LS) (r : Int) : LS := LS.endEv { s with copies := s.copies ++ [((getA s.seats r).getD 0, s.tab r)] }
theorem LS.Ok.copied {s : LS} {n : Nat} (k : s.Ok n) (c : Int × List (Str × Int)) (hc : 0 ≤ c.1 ∧ c.1 ≤ s.ents.length) (hl : c.2.length ≤ (n + 1) * (n + 1)) : LS.Ok { s with copies := s.copies ++ [c] } (n + 1) := by
  have up := k.up (Nat.le_succ n)
  refine ⟨k.eg, k.es, up.en, k.s0, up.sl, up.tl, fun x hx => ?_, ?_, k.g0, up.tw, fun x hx => ?_⟩
  · rcases List.mem_append.mp hx with z | z
    · exact k.c0 x z
    · rw [List.mem_singleton.mp z]
      exact hc
  · show (s.copies ++ [c]).length ≤ n + 1
    rw [List.length_append, List.length_singleton]
    have := k.cl
    omega
  · rcases List.mem_append.mp hx with z | z
    · exact up.cw x z
    · rw [List.mem_singleton.mp z]
      exact hl
def spSave (C : Addr) : Sp := fun vs H Q _ => ∃ (p : Addr) (A : LA) (L : List (Int × Addr)) (s : LS) (r z : Int) (n : Nat), vs = [.ref p, .int r] ∧ LogAt C H p A L s ∧ s.Ok n ∧ n ≤ 200 ∧ getA s.seats r = some z ∧ (∃ tb, getA s.tabs r = some tb) ∧
  ∀ H', Gr (own p A (L.map (·.2))) H H' → LogAt C H' p A L (s.save r) → Q (.int s.copies.length) H'
abbrev s_Log_save : Stmt := inClass (topS 6) 8
abbrev N_Log_save : List Str := ["self", "reader"]
abbrev ps_Log_save : List Str := ["self", "reader"]
theorem sc_Log_save : FnScope N_Log_save ps_Log_save (defScope s_Log_save) := ⟨rfl, rfl, rfl, by decide +kernel, rfl, by decide +kernel, by decide +kernel⟩
theorem has_logsave {C : Addr} (D : DfM K C "save" "Log.save" s_Log_save ps_Log_save) (T : Txt mg) (W : LogC K C) (G_Log__check_joined : HasM P w K mg base C 1 "_check_joined" ps_Log__check_joined (spCheck C)) (G_Log_table : HasM P w K mg base C 2 "table" ps_Log_table (spLogTable C)) (G_Log__end_event : HasM P w K mg base C 3 "_end_event" ps_Log__end_event (spEnd C)) :
    HasM P w K mg base C 4 "save" ps_Log_save (spSave C) := HasM.mk' D fun f fd F => by
  have CL_Log := W.cl
  refine F.ok sc_Log_save (fun vs H Q E h => ?_) (fun cdv A' outer s' H vs Q E hr h => ?_)
  · obtain ⟨p, A, L, s, r, z, n, rfl, _⟩ := h
    rfl
  · obtain ⟨p, A, L, s, r, z, n, rfl, hl, ok, hn, hz, ⟨tb, ht⟩, q⟩ := h
    refine ⟨_, (pss_cons (ps_expr (pe_methH (pv 0) G_Log__check_joined CL_Log (hr.mono (by decide)) (pa_cons (pv 1) pa_nil)))
(pss_cons (ps_expr (pe_bm PySem.F.plainAttrs_list PySem.F.slot_list_append PySem.F.type_list_append mt_append (pe_fld (pv 0) rfl) (pa_cons (pe_tup (pa_cons (pe_dget (hu_of hr) (pe_fld (pv 0) rfl) (pv 1) (fun _ _ => rfl)) (pa_cons (pe_callTy (call_tuple_fz (K := K)) (by rfl) T.m_tuple (by decide +kernel) (pa_cons (pe_methH (pv 0) G_Log_table CL_Log (hr.mono (by decide)) (pa_cons (pv 1) pa_nil)) pa_nil)) pa_nil))) pa_nil)))
(pss_cons (ps_expr (pe_meth0H (pv 0) G_Log__end_event CL_Log (hr.mono (by decide))))
(pss_one (ps_ret (pe_op op_sub (pe_callB (call_len_seqK (K := K)) (by rfl) T.m_len (by decide +kernel) (pa_cons (pe_fld (pv 0) rfl) pa_nil)) pe_int)))))), ?_⟩
    obtain ⟨dx, ho⟩ := hl.ob
    obtain ⟨cs, co1, co2⟩ := id hl.co
    have cl : cs.length = s.copies.length := co2.length
    have c9 := ok.cl
    refine WK.w_seq ?_
    refine WK.w_drop ?_
    refine WK.w_meth rfl ho lF_none ?_
    walk_at "w"
    refine ⟨p, A, L, s, r, z, rfl, hl, hz, ?_⟩
    walk_at "w"
    refine hl.fnC W rfl ?_
    refine ⟨.inl ⟨rfl, _, SqL.of co1⟩, ?_⟩
    walk_at "w"
    refine hl.fnS W rfl ?_
    walk_at "w"
    have hg := seats_get hl.se r
    rw [hz] at hg
    refine ⟨A.se, _, rfl, hg, ?_⟩
    walk_at "w"
    refine WK.w_meth rfl ho lF_none ?_
    walk_at "w"
    refine ⟨p, A, L, s, r, z, tb, rfl, hl, hz, ht, fun l xs H1 g1 nl hl1 t1 => ?_⟩
    walk_at "w"
    refine ⟨l, xs, rfl, SqL.of hl1, fun y ob c1 c2 ny => ?_⟩
    have g2 : Gr [] H1 (upd H1 y (.frz ob (.tup xs))) := Gr.new ny
    have ey : FzT (upd H1 y (.frz ob (.tup xs))) y xs := ⟨ob, upd_same, c1, c2⟩
    have t2 := t1.gr g2
    generalize (upd H1 y (.frz ob (.tup xs))) = H2 at *
    walk_at "w"
    refine ⟨WK.sz, fun c nc => ?_⟩
    have g3 : Gr [] H2 (upd H2 c (.tup [.int z, .ref y])) := Gr.new nc
    have ec : (upd H2 c (.tup [.int z, .ref y])) c = some (.tup [.int z, .ref y]) := upd_same
    have t3 := t2.gr g3
    have ey3 := ey.gr g3
    generalize (upd H2 c (.tup [.int z, .ref y])) = H3 at *
    have g03 := (g1.trans g2).trans g3
    have l3 := hl.k0 g03
    have co3 := g03.k0 co1
    walk_at "w"
    refine WK.w_app co3 (WK.sz' (by omega)) ?_
    have z0 : (getA s.seats r).getD 0 = z := by rw [hz]; rfl
    obtain ⟨l4, g4⟩ := l3.addCo (c := (z, s.tab r)) co3 ⟨c, y, xs, rfl, ec, ey3, t3⟩
    show (tSeq _ _) _ _ (upd H3 A.co (.lst (cs ++ [.ref c])))
    generalize (upd H3 A.co (.lst (cs ++ [.ref c]))) = H4 at *
    walk_at "w"
    obtain ⟨dx4, ho4⟩ := l4.ob
    refine WK.w_meth rfl ho4 lF_none ?_
    have tl : (s.tab r).length ≤ (n + 1) * (n + 1) := by
      unfold LS.tab
      rw [ordS_len, ht]
      exact Nat.le_trans (ok.tw _ (getA_mem ht)) (sq_le (Nat.le_succ n))
    refine ⟨p, A, L, _, rfl, l4, (ok.copied (z, s.tab r) (ok.s0 _ (getA_mem hz)) tl).up (by omega), fun H5 g5 l5 => ?_⟩
    have e5 : LS.endEv { s with copies := s.copies ++ [(z, s.tab r)] } = s.save r := by unfold LS.save; rw [z0]
    rw [e5] at l5
    walk_at "w"
    obtain ⟨cs5, co5, em5⟩ := id l5.co
    refine l5.fnC W rfl ?_
    walk_at "w"
    have n5 : cs5.length = s.copies.length + 1 := by
      rw [em5.length]
      show (s.copies ++ [_]).length = _
      rw [List.length_append]
      rfl
    rw [show ((cs5.length : Int)) - 1 = s.copies.length from by rw [n5]; omega]
    exact q _ (g03.nw (g4.trans g5)) l5

end
end PK
namespace PK
open PySem L2
section
variable {P : Program} {w : World} {K : PySem.W.Frag} {mg : Str → Option Value} {base : Heap}
def LS.load (s : LS) (r c : Int) : LS := LS.endEv { s with seats := putA s.seats r (s.copies.getD c.toNat (0, [])).1, tabs := putA s.tabs r (mrgA (s.copies.getD c.toNat (0, [])).2) }
theorem mrg_len (l : List (Str × Int)) : (mrgA l).length ≤ l.length := by
  have go : ∀ (l acc : List (Str × Int)), (l.foldl (fun t e => putA t e.1 e.2) acc).length ≤ acc.length + l.length := by
    intro l
    induction l with
    | nil => exact fun acc => Nat.le_refl _
    | cons e l ih =>
      intro acc
      rw [List.foldl_cons, List.length_cons]
      have h1 := ih (putA acc e.1 e.2)
      have h2 := putA_len acc e.1 e.2
      omega
  have h := go l []
  rw [List.length_nil, Nat.zero_add] at h
  exact h
def spLoad (C : Addr) : Sp := fun vs H Q _ => ∃ (p : Addr) (A : LA) (L : List (Int × Addr)) (s : LS) (r c : Int) (n : Nat), vs = [.ref p, .int r, .int c] ∧ LogAt C H p A L s ∧ s.Ok n ∧ n ≤ 200 ∧ 0 ≤ c ∧ c < s.copies.length ∧
  ∀ H' L', Stp C H p A L (s.load r c) H' L' → Q .non H'
abbrev s_Log_load : Stmt := inClass (topS 6) 9
abbrev N_Log_load : List Str := ["self", "reader", "copy", "place", "pairs"]
abbrev ps_Log_load : List Str := ["self", "reader", "copy"]
theorem sc_Log_load : FnScope N_Log_load ps_Log_load (defScope s_Log_load) := ⟨rfl, rfl, rfl, by decide +kernel, rfl, by decide +kernel, by decide +kernel⟩
theorem has_logload {C : Addr} (D : DfM K C "load" "Log.load" s_Log_load ps_Log_load) (T : Txt mg) (W : LogC K C) (G_Log__end_event : HasM P w K mg base C 3 "_end_event" ps_Log__end_event (spEnd C)) :
    HasM P w K mg base C 4 "load" ps_Log_load (spLoad C) := HasM.mk' D fun f fd F => by
  have CL_Log := W.cl
  refine F.ok sc_Log_load (fun vs H Q E h => ?_) (fun cdv A' outer s' H vs Q E hr h => ?_)
  · obtain ⟨p, A, L, s, r, c, n, rfl, _⟩ := h
    rfl
  · obtain ⟨p, A, L, s, r, c, n, rfl, hl, ok, hn, c0, cl, q⟩ := h
    refine ⟨_, (pss_cons (ps_if (pt_not (pt_chain op_le op_lt pe_int (pv 2) (pe_callB (call_len_seqK (K := K)) (by rfl) T.m_len (by decide +kernel) (pa_cons (pe_fld (pv 0) rfl) pa_nil))))
  (pss_one ps_never)
  pss_nil)
(pss_cons (ps_asg (pe_ix (ix_listK (K := K)) (pe_fld (pv 0) rfl) (pv 2) (fun _ _ => rfl)) (pg_tup rfl (pgs_cons (pg_name (i := 3) sc_Log_load.nd rfl (Or.inl rfl)) (pgs_cons (pg_name (i := 4) sc_Log_load.nd rfl (Or.inl rfl)) pgs_nil))))
(pss_cons (ps_dput (hu_of hr) (pe_fld (pv 0) rfl) (pv 1) (pv 3) rfl)
(pss_cons (ps_dput (hu_of hr) (pe_fld (pv 0) rfl) (pv 1) (pe_callTy (call_dictT rfl) (by rfl) T.m_dict (by decide +kernel) (pa_cons (pv 4) pa_nil)) rfl)
(pss_one (ps_expr (pe_meth0H (pv 0) G_Log__end_event CL_Log (hr.mono (by decide))))))))), ?_⟩
    obtain ⟨dx, ho⟩ := hl.ob
    obtain ⟨cs, co1, co2⟩ := id hl.co
    have csl : cs.length = s.copies.length := co2.length
    obtain ⟨j, rfl⟩ : ∃ j : Nat, c = (j : Int) := ⟨c.toNat, by omega⟩
    have jl : j < s.copies.length := by omega
    obtain ⟨a, b, xs, e1, h1, h2, h3⟩ := cps_get co2 jl
    have cmem : s.copies.getD j (0, []) ∈ s.copies := by
      rw [List.getD_eq_getElem?_getD, List.getElem?_eq_getElem jl]
      exact List.getElem_mem jl
    have ld : s.load r (j : Int) = LS.endEv { s with seats := putA s.seats r (s.copies.getD j (0, [])).1, tabs := putA s.tabs r (mrgA (s.copies.getD j (0, [])).2) } := rfl
    have hc0 := ok.c0 _ cmem
    have hcw := ok.cw _ cmem
    rw [ld] at q
    generalize s.copies.getD j (0, []) = k at *
    walk_at "w"
    walk_at "i"
    refine WK.w_chain ?_
    walk_at "w"
    refine WK.w_2 (fun _ => ?_) (fun no => (no c0).elim)
    refine hl.fnC W rfl ?_
    walk_at "w"
    rw [csl]
    refine WK.w_ifN (by simp [jl]) ?_
    walk_at "w"
    refine hl.fnC W rfl ?_
    walk_at "w"
    refine WK.w_ixL co1 e1 ?_
    walk_at "w"
    refine hl.fnS W rfl ?_
    walk_at "w"
    have sl := ok.sl
    have tl := ok.tl
    refine ⟨A.se, _, rfl, seats_put hl.se (by omega) r k.1, ?_⟩
    obtain ⟨l1, g1⟩ := hl.setSe (putA s.seats r k.1)
    show (tSeq _ _) _ _ (upd H A.se (.dK (seatsV (putA s.seats r k.1))))
    generalize (upd H A.se (.dK (seatsV (putA s.seats r k.1)))) = H1 at *
    walk_at "w"
    refine ⟨b, xs, k.2, rfl, h2.gr g1, h3.gr g1, fun d nd => ?_⟩
    have g2 : Gr [] H1 (upd H1 d (.dK (tabV (mrgA k.2)))) := Gr.new nd
    have ed : (upd H1 d (.dK (tabV (mrgA k.2)))) d = some (.dK (tabV (mrgA k.2))) := upd_same
    have dn := l1.live nd
    have l2 := l1.k0 g2
    have nd0 : H d = none := g1.live _ nd
    generalize (upd H1 d (.dK (tabV (mrgA k.2)))) = H2 at *
    walk_at "w"
    refine l2.fnA W rfl ?_
    walk_at "w"
    have hL : L.length = s.tabs.length := hl.td.length
    refine ⟨A.ta, _, rfl, tabs_put l2.ta (by omega) r d, ?_⟩
    obtain ⟨l3, g3, sub⟩ := l2.newTab r ed dn
    generalize (upd H2 A.ta (.dK (tabsV (putA L r d)))) = H3 at *
    walk_at "w"
    obtain ⟨dx3, ho3⟩ := l3.ob
    refine WK.w_meth rfl ho3 lF_none ?_
    have ml : (mrgA k.2).length ≤ (n + 1) * (n + 1) := Nat.le_trans (mrg_len k.2) (Nat.le_trans hcw (sq_le (Nat.le_succ n)))
    refine ⟨p, A, _, _, rfl, l3, (ok.seat r k.1 (mrgA k.2) hc0 ml).up (by omega), fun H4 g4 l4 => ?_⟩
    refine q _ _ (Stp.trans ⟨(g1.trans (g2.mono (by simp))).trans g3, fun x hx => ?_, l3⟩ (Stp.one g4 l4))
    rcases sub x hx with e | e
    · exact .inr (by rw [e]; exact nd0)
    · exact .inl e

end
end PK
namespace PK
open PySem L2
section
variable {P : Program} {w : World} {K : PySem.W.Frag} {mg : Str → Option Value} {base : Heap}
def LS.fits (s : LS) : Ev → Prop
  | .read r u => ∃ z tb, getA s.seats r = some z ∧ getA s.tabs r = some tb ∧ z < u ∧ u ≤ s.ents.length
  | .save r => ∃ z tb, getA s.seats r = some z ∧ getA s.tabs r = some tb
  | .load _ c => 0 ≤ c ∧ c < s.copies.length
  | _ => True
def LS.does (s : LS) : Ev → LS
  | .put k i => s.app k (some i)
  | .drop k => s.app k none
  | .join r => s.join r
  | .read r u => s.read r u
  | .save r => s.save r
  | .load r c => s.load r c
  | .wait => s.endEv
def EW : List Str := ["put", "drop", "join", "read", "save", "load", "wait"]
def spDo (K : PySem.W.Frag) (C : Addr) : Sp := fun vs H Q _ => ∃ (p : Addr) (A : LA) (L : List (Int × Addr)) (s : LS) (n : Nat) (b : Addr) (e : Ev), vs = [.ref p, .ref b] ∧ LogAt C H p A L s ∧ s.Ok n ∧ n ≤ 200 ∧ Sq K H b e.vs ∧ s.fits e ∧
  ∀ v H' L', Stp C H p A L (s.does e) H' L' → Q v H'
abbrev s_Log_do : Stmt := inClass (topS 6) 11
abbrev N_Log_do : List Str := ["self", "event", "key", "value", "reader", "upto", "copy"]
abbrev ps_Log_do : List Str := ["self", "event"]
theorem sc_Log_do : FnScope N_Log_do ps_Log_do (defScope s_Log_do) := ⟨rfl, rfl, rfl, by decide +kernel, rfl, by decide +kernel, by decide +kernel⟩
theorem has_logdo {C : Addr} (D : DfM K C "do" "Log.do" s_Log_do ps_Log_do) (T : Txt mg) (W : LogC K C) (G_Log_put : HasM P w K mg base C 5 "put" ps_Log_put (spPut C)) (G_Log_drop : HasM P w K mg base C 5 "drop" ps_Log_drop (spDrop C))
    (G_Log_join : HasM P w K mg base C 4 "join" ps_Log_join (spJoin C)) (G_Log_read : HasM P w K mg base C 4 "read" ps_Log_read (spRead C)) (G_Log_save : HasM P w K mg base C 4 "save" ps_Log_save (spSave C)) (G_Log_load : HasM P w K mg base C 4 "load" ps_Log_load (spLoad C))
    (G_Log_wait : HasM P w K mg base C 4 "wait" ps_Log_wait (spWait C)) :
    HasM P w K mg base C 6 "do" ps_Log_do (spDo K C) := HasM.mk' D fun f fd F => by
  have CL_Log := W.cl
  refine F.ok sc_Log_do (fun vs H Q E h => ?_) (fun cdv A' outer s' H vs Q E hr h => ?_)
  · obtain ⟨p, A, L, s, n, b, e, rfl, _⟩ := h
    rfl
  · obtain ⟨p, A, L, s, n, b, e, rfl, hl, ok, hn, hS, hf, q⟩ := h
    refine ⟨_, (pss_cons (ps_match (pv 1) (pcs_wordS sc_Log_do.nd rfl (op_eqDK (K := K) hr.units) (.name (i := 2) rfl rfl (.name (i := 3) rfl rfl .nil)) (pss_one (ps_ret (pe_methH (pv 0) G_Log_put CL_Log (hr.mono (by decide)) (pa_cons (pv 2) (pa_cons (pv 3) pa_nil)))))
(pcs_wordS sc_Log_do.nd rfl (op_eqDK (K := K) hr.units) (.name (i := 2) rfl rfl .nil) (pss_one (ps_ret (pe_methH (pv 0) G_Log_drop CL_Log (hr.mono (by decide)) (pa_cons (pv 2) pa_nil))))
(pcs_wordS sc_Log_do.nd rfl (op_eqDK (K := K) hr.units) (.name (i := 4) rfl rfl .nil) (pss_one (ps_ret (pe_methH (pv 0) G_Log_join CL_Log (hr.mono (by decide)) (pa_cons (pv 4) pa_nil))))
(pcs_wordS sc_Log_do.nd rfl (op_eqDK (K := K) hr.units) (.name (i := 4) rfl rfl (.name (i := 5) rfl rfl .nil)) (pss_one (ps_ret (pe_methH (pv 0) G_Log_read CL_Log (hr.mono (by decide)) (pa_cons (pv 4) (pa_cons (pv 5) pa_nil)))))
(pcs_wordS sc_Log_do.nd rfl (op_eqDK (K := K) hr.units) (.name (i := 4) rfl rfl .nil) (pss_one (ps_ret (pe_methH (pv 0) G_Log_save CL_Log (hr.mono (by decide)) (pa_cons (pv 4) pa_nil))))
(pcs_wordS sc_Log_do.nd rfl (op_eqDK (K := K) hr.units) (.name (i := 4) rfl rfl (.name (i := 6) rfl rfl .nil)) (pss_one (ps_ret (pe_methH (pv 0) G_Log_load CL_Log (hr.mono (by decide)) (pa_cons (pv 4) (pa_cons (pv 6) pa_nil)))))
pcs_nil)))))))
(pss_one (ps_ret (pe_meth0H (pv 0) G_Log_wait CL_Log (hr.mono (by decide)))))), ?_⟩
    have sk : ∀ w ∈ EW, PyData.strOk w = true := by decide +kernel
    obtain ⟨dx, ho⟩ := hl.ob
    refine WK.w_seq ?_
    refine w_match ?_
    walk_at "w"
    cases e with
    | put k i =>
      refine s_yes hS rfl (sk _ (by simp [EW])) ?_
      walk_at "w"
      refine WK.w_meth rfl ho lF_none ?_
      walk_at "w"
      exact ⟨p, A, L, s, k, i, rfl, hl, ok.up (by omega), fun H' g l => q _ _ _ (Stp.one g l)⟩
    | drop k =>
      refine s_skip hS (by simp [Ev.vs]) (s_yes hS rfl (sk _ (by simp [EW])) ?_)
      walk_at "w"
      refine WK.w_meth rfl ho lF_none ?_
      walk_at "w"
      exact ⟨p, A, L, s, k, rfl, hl, ok.up (by omega), fun H' g l => q _ _ _ (Stp.one g l)⟩
    | join r =>
      refine s_skip hS (by simp [Ev.vs]) (s_not hS (sk _ (by simp [EW])) (sk _ (by simp [EW])) (by decide +kernel) (s_yes hS rfl (sk _ (by simp [EW])) ?_))
      walk_at "w"
      refine WK.w_meth rfl ho lF_none ?_
      walk_at "w"
      exact ⟨p, A, L, s, r, rfl, hl, ok.up (by omega), fun H' L' g => q _ _ _ g⟩
    | read r u =>
      obtain ⟨z, tb, f1, f2, f3, f4⟩ := hf
      refine s_not hS (sk _ (by simp [EW])) (sk _ (by simp [EW])) (by decide +kernel) (s_skip hS (by simp [Ev.vs]) (s_skip hS (by simp [Ev.vs]) (s_yes hS rfl (sk _ (by simp [EW])) ?_)))
      walk_at "w"
      refine WK.w_meth rfl ho lF_none ?_
      walk_at "w"
      exact ⟨p, A, L, s, r, u, z, n, rfl, hl, ok, hn, f1, ⟨tb, f2⟩, f3, f4, fun l xs H' g lg _ _ _ => q _ _ _ (Stp.one g lg)⟩
    | save r =>
      obtain ⟨z, tb, f1, f2⟩ := hf
      refine s_skip hS (by simp [Ev.vs]) (s_not hS (sk _ (by simp [EW])) (sk _ (by simp [EW])) (by decide +kernel) (s_not hS (sk _ (by simp [EW])) (sk _ (by simp [EW])) (by decide +kernel) (s_skip hS (by simp [Ev.vs]) (s_yes hS rfl (sk _ (by simp [EW])) ?_))))
      walk_at "w"
      refine WK.w_meth rfl ho lF_none ?_
      walk_at "w"
      exact ⟨p, A, L, s, r, z, n, rfl, hl, ok, hn, f1, ⟨tb, f2⟩, fun H' g lg => q _ _ _ (Stp.one g lg)⟩
    | load r c =>
      obtain ⟨f1, f2⟩ := hf
      refine s_not hS (sk _ (by simp [EW])) (sk _ (by simp [EW])) (by decide +kernel) (s_skip hS (by simp [Ev.vs]) (s_skip hS (by simp [Ev.vs]) (s_not hS (sk _ (by simp [EW])) (sk _ (by simp [EW])) (by decide +kernel) (s_skip hS (by simp [Ev.vs]) (s_yes hS rfl (sk _ (by simp [EW])) ?_)))))
      walk_at "w"
      refine WK.w_meth rfl ho lF_none ?_
      walk_at "w"
      exact ⟨p, A, L, s, r, c, n, rfl, hl, ok, hn, f1, f2, fun H' L' g => q _ _ _ g⟩
    | wait =>
      refine s_skip hS (by simp [Ev.vs]) (s_skip hS (by simp [Ev.vs]) (s_skip hS (by simp [Ev.vs]) (s_skip hS (by simp [Ev.vs]) (s_skip hS (by simp [Ev.vs]) (s_skip hS (by simp [Ev.vs]) (c_nil ?_))))))
      walk_at "w"
      refine WK.w_meth rfl ho lF_none ?_
      exact ⟨p, A, L, s, rfl, hl, ok.up (by omega), fun H' g lg => q _ _ _ (Stp.one g lg)⟩

end
end PK
namespace PK
open PySem L2
section
variable {P : Program} {w : World} {K : PySem.W.Frag} {mg : Str → Option Value} {base : Heap}
def spNow (C : Addr) : Sp := fun vs H Q _ => ∃ (p : Addr) (A : LA) (L : List (Int × Addr)) (s : LS), vs = [.ref p] ∧ LogAt C H p A L s ∧ Q (.int s.time) H
abbrev s_Log_now : Stmt := inClass (topS 6) 14
abbrev N_Log_now : List Str := ["self"]
abbrev ps_Log_now : List Str := ["self"]
theorem sc_Log_now : FnScope N_Log_now ps_Log_now (defScope s_Log_now) := ⟨rfl, rfl, rfl, by decide +kernel, rfl, by decide +kernel, by decide +kernel⟩
theorem has_lognow {C : Addr} (D : DfM K C "now" "Log.now" s_Log_now ps_Log_now) (T : Txt mg) (W : LogC K C) : HasM P w K mg base C 1 "now" ps_Log_now (spNow C) := HasM.mk' D fun f fd F => by
  refine F.ok sc_Log_now (fun vs H Q E h => ?_) (fun cdv A' outer s' H vs Q E hr h => ?_)
  · obtain ⟨p, A, L, s, rfl, _⟩ := h
    rfl
  · obtain ⟨p, A, L, s, rfl, hl, q⟩ := h
    refine ⟨_, (pss_one (ps_ret (pe_fld (pv 0) rfl))), ?_⟩
    walk_at "w"
    refine hl.fnT W rfl ?_
    exact q
theorem LS.does_time (s : LS) : ∀ e : Ev, (s.does e).time = s.time + 1
  | .put _ _ | .drop _ | .join _ | .read _ _ | .save _ | .load _ _ | .wait => rfl
theorem LS.Ok.does {s : LS} {n : Nat} (k : s.Ok n) {e : Ev} (f : s.fits e) : (s.does e).Ok (n + 1) := by
  cases e with
  | put x i => exact (k.put x (some i)).ended
  | drop x => exact (k.put x none).ended
  | join r => exact (k.seat r 0 [] ⟨by omega, by omega⟩ (by simp)).ended
  | read r u =>
    obtain ⟨z, tb, f1, f2, f3, f4⟩ := f
    refine (k.seat r u (s.reads r u (s.told r u)) ⟨?_, f4⟩ ?_).ended
    · have := k.s0 _ (getA_mem f1)
      dsimp only at this
      omega
    · have h1 := tabs_len ((s.told r u).map s.ent) ((getA s.tabs r).getD [])
      rw [show (getA s.tabs r).getD [] = tb from by rw [f2]; rfl, List.length_map] at h1
      have h2 := told_len s r u
      have h3 := k.tw _ (getA_mem f2)
      have h4 := k.en
      dsimp only at h3
      unfold LS.reads
      rw [show (getA s.tabs r).getD [] = tb from by rw [f2]; rfl]
      have : (n + 1) * (n + 1) = n * n + 2 * n + 1 := by rw [Nat.add_mul, Nat.mul_add]; omega
      omega
  | save r =>
    obtain ⟨z, tb, f1, f2⟩ := f
    have z0 : (getA s.seats r).getD 0 = z := by rw [f1]; rfl
    show LS.Ok (LS.save s r) (n + 1)
    unfold LS.save
    rw [z0]
    refine (k.copied (z, s.tab r) (k.s0 _ (getA_mem f1)) ?_).ended
    show (s.tab r).length ≤ _
    unfold LS.tab
    rw [ordS_len, f2]
    exact Nat.le_trans (k.tw _ (getA_mem f2)) (sq_le (Nat.le_succ n))
  | load r c =>
    obtain ⟨f1, f2⟩ := f
    obtain ⟨j, rfl⟩ : ∃ j : Nat, c = (j : Int) := ⟨c.toNat, by omega⟩
    have jl : j < s.copies.length := by omega
    have cm : s.copies.getD j (0, []) ∈ s.copies := by
      rw [List.getD_eq_getElem?_getD, List.getElem?_eq_getElem jl]
      exact List.getElem_mem jl
    exact (k.seat r (s.copies.getD j (0, [])).1 (mrgA (s.copies.getD j (0, [])).2) (k.c0 _ cm) (Nat.le_trans (mrg_len _) (Nat.le_trans (k.cw _ cm) (sq_le (Nat.le_succ n))))).ended
  | wait => exact (k.up (Nat.le_succ n)).ended
def LS.runs (s : LS) (es : List Ev) : LS := es.foldl LS.does s
def LS.Goes : LS → List Ev → Prop
  | _, [] => True
  | s, e :: es => s.fits e ∧ (s.does e).Goes es
theorem LS.runs_time : ∀ (es : List Ev) (s : LS), (s.runs es).time = s.time + es.length
  | [], s => by simp [LS.runs]
  | e :: es, s => by
    have h := LS.runs_time es (s.does e)
    rw [LS.does_time] at h
    show ((s.does e).runs es).time = _
    rw [h, List.length_cons]
    omega
theorem LS.Ok.runs : ∀ {es : List Ev} {s : LS} {n : Nat}, s.Ok n → s.Goes es → (s.runs es).Ok (n + es.length)
  | [], _, _, k, _ => k
  | e :: es, s, n, k, g => by
    have h := LS.Ok.runs (k.does g.1) g.2
    rw [List.length_cons, show n + (es.length + 1) = n + 1 + es.length from by omega]
    exact h
theorem LS.goes_append : ∀ {a b : List Ev} {s : LS}, s.Goes (a ++ b) ↔ s.Goes a ∧ (s.runs a).Goes b
  | [], b, s => ⟨fun h => ⟨trivial, h⟩, fun h => h.2⟩
  | e :: a, b, s => by
    have h := LS.goes_append (a := a) (b := b) (s := s.does e)
    exact ⟨fun z => ⟨⟨z.1, (h.mp z.2).1⟩, (h.mp z.2).2⟩, fun z => ⟨z.1.1, h.mpr ⟨z.1.2, z.2⟩⟩⟩
theorem LS.runs_append (s : LS) (a b : List Ev) : s.runs (a ++ b) = (s.runs a).runs b := List.foldl_append ..
/-- a Log that was begun behind B: nothing of B is its own -/
structure Newer (B H : Hp) (p : Addr) (A : LA) (L : List (Int × Addr)) : Prop where
  g : Gr [] B H
  n : ∀ x ∈ own p A (L.map (·.2)), B x = none
theorem Newer.stp {C : Addr} {B H H' : Hp} {p : Addr} {A : LA} {L L' : List (Int × Addr)} {s' : LS} (h : Newer B H p A L) (t : Stp C H p A L s' H' L') : Newer B H' p A L' := by
  refine ⟨Gr.of_ex fun a o e => t.gr.keep a o (fun z => ?_) (h.g.k0 e), fun x hx => ?_⟩
  · rw [h.n a z] at e
    cases e
  · rcases t.sub x hx with z | z
    · exact h.n x z
    · exact h.g.live _ z
theorem Newer.k0 {B H H' : Hp} {p : Addr} {A : LA} {L : List (Int × Addr)} (h : Newer B H p A L) (g : Gr [] H H') : Newer B H' p A L := ⟨h.g.trans g, h.n⟩
theorem LS.goes_take {s : LS} {l : List Ev} (h : s.Goes l) (i : Nat) : s.Goes (l.take i) := (LS.goes_append.mp (by rw [List.take_append_drop]; exact h : s.Goes (l.take i ++ l.drop i))).1
theorem LS.goes_at {s : LS} {l : List Ev} (h : s.Goes l) {i : Nat} {e : Ev} (he : l[i]? = some e) : (s.runs (l.take i)).fits e := by
  have h2 : s.Goes (l.take (i + 1)) := LS.goes_take h _
  rw [take_snoc he] at h2
  exact (LS.goes_append.mp h2).2.1

end
end PK
namespace PK
open PySem L2
section
variable {P : Program} {w : World} {K : PySem.W.Frag} {mg : Str → Option Value} {base : Heap}
def spAhead (K : PySem.W.Frag) (C : Addr) : Sp := fun vs H Q _ => ∃ (B : Hp) (p : Addr) (A : LA) (L : List (Int × Addr)) (s : LS) (n : Nat) (v : V) (es : List Ev) (i j : Nat), vs = [.ref p, v, .int j] ∧ LogAt C H p A L s ∧ Newer B H p A L ∧ TabQ K B v es ∧ s.Ok n ∧ n + es.length ≤ 200 ∧
  s.time = i ∧ i ≤ j ∧ j ≤ es.length ∧ s.Goes ((es.drop i).take (j - i)) ∧
  ∀ H' L', LogAt C H' p A L' (s.runs ((es.drop i).take (j - i))) → Newer B H' p A L' → Q .non H'
abbrev s_do_ahead_of : Stmt := topS 8
abbrev N_do_ahead_of : List Str := ["log", "timetable", "time"]
abbrev ps_do_ahead_of : List Str := ["log", "timetable", "time"]
theorem sc_do_ahead_of : FnScope N_do_ahead_of ps_do_ahead_of (defScope s_do_ahead_of) := ⟨rfl, rfl, rfl, by decide +kernel, rfl, by decide +kernel, by decide +kernel⟩
theorem has_ahead {C : Addr} (D : Df K mg "_do_ahead_of" s_do_ahead_of ps_do_ahead_of) (T : Txt mg) (W : LogC K C) (G_Log_now : HasM P w K mg base C 1 "now" ps_Log_now (spNow C)) (G_Log_do : HasM P w K mg base C 6 "do" ps_Log_do (spDo K C)) :
    Has P w K mg base 7 "_do_ahead_of" ps_do_ahead_of (spAhead K C) := Has.mk' D fun f fd F => by
  have CL_Log := W.cl
  refine F.ok sc_do_ahead_of (fun vs H Q E h => ?_) (fun cdv A' outer s' H vs Q E hr h => ?_)
  · obtain ⟨B, p, A, L, s, n, v, es, i, j, rfl, _⟩ := h
    rfl
  · obtain ⟨B, p, A, L, s, n, v, es, i, j, rfl, hl, nw, ht, ok, h200, hti, ij, je, go, q⟩ := h
    refine ⟨_, (pss_one (ps_while PassesOwn.never (pt_cmpR op_lt (pe_meth0H (pv 0) G_Log_now CL_Log (hr.mono (by decide))) (pv 2) (nomark _))
  (pss_one (ps_expr (pe_methH (pv 0) G_Log_do CL_Log (hr.mono (by decide)) (pa_cons (pe_ix (ix_seqK (K := K)) (pv 1) (pe_meth0H (pv 0) G_Log_now CL_Log (hr.mono (by decide))) (fun _ _ => rfl)) pa_nil)))))), ?_⟩
    refine ⟨fun m σ' H' => ∃ k L', σ' = [some (.ref p), some v, some (.int j)] ∧ m + k = j ∧ i ≤ k ∧ LogAt C H' p A L' (s.runs ((es.drop i).take (k - i))) ∧ Newer B H' p A L', ⟨j - i, i, L, rfl, by omega, Nat.le_refl _, by rw [Nat.sub_self]; exact hl, nw⟩, ?_⟩
    rintro m _ H1 ⟨k, L1, rfl, mk, ik, l1, n1⟩
    have tm : (s.runs ((es.drop i).take (k - i))).time = (k : Int) := by
      rw [LS.runs_time, hti, List.length_take, List.length_drop]
      omega
    obtain ⟨dx1, ho1⟩ := id l1.ob
    walk_at "w"
    refine WK.w_meth rfl ho1 lF_none ?_
    walk_at "w"
    refine ⟨p, A, L1, _, rfl, l1, ?_⟩
    rw [tm]
    walk_at "w"
    refine WK.w_2 (fun h1 => ?_) (fun h1 => ?_)
    · have kj : k < j := by omega
      obtain ⟨a, xs, rfl, hq, pr⟩ := ht.gr n1.g
      obtain ⟨e, he⟩ : ∃ e, es[k]? = some e := ⟨es[k]'(by omega), List.getElem?_eq_getElem (by omega)⟩
      obtain ⟨w, e1, c, rfl, e2⟩ := pr_get' pr he
      have tk : (es.drop i).take (k + 1 - i) = (es.drop i).take (k - i) ++ [e] := by
        rw [show k + 1 - i = (k - i) + 1 from by omega]
        exact take_snoc (by rw [List.getElem?_drop, show i + (k - i) = k from by omega]; exact he)
      have fe : (s.runs ((es.drop i).take (k - i))).fits e := by
        have z := LS.goes_at go (i := k - i) (e := e) (by rw [List.getElem?_take, if_pos (by omega), List.getElem?_drop, show i + (k - i) = k from by omega]; exact he)
        rw [List.take_take, Nat.min_eq_left (by omega)] at z
        exact z
      have ok1 : (s.runs ((es.drop i).take (k - i))).Ok 200 := by
        have z := LS.goes_take go (k - i)
        rw [List.take_take, Nat.min_eq_left (by omega)] at z
        refine (ok.runs z).up ?_
        rw [List.length_take, List.length_drop]
        omega
      refine ⟨fun σ' H' => ∃ L', σ' = [some (.ref p), some (.ref a), some (.int j)] ∧ LogAt C H' p A L' (s.runs ((es.drop i).take (k + 1 - i))) ∧ Newer B H' p A L', fun σ' H' ⟨L', z1, z2, z3⟩ => ⟨m - 1, by omega, k + 1, L', z1, by omega, by omega, z2, z3⟩, ?_⟩
      walk_at "w"
      refine WK.w_meth rfl ho1 lF_none ?_
      walk_at "w"
      refine WK.w_meth rfl ho1 lF_none ?_
      walk_at "w"
      refine ⟨p, A, L1, _, rfl, l1, ?_⟩
      rw [tm]
      walk_at "w"
      refine w_ixQ hq (atI_nat e1) ?_
      walk_at "w"
      refine ⟨p, A, L1, _, 200, c, e, rfl, l1, ok1, Nat.le_refl _, e2, fe, fun v' H2 L2 st => ?_⟩
      refine ⟨L2, rfl, ?_, n1.stp st⟩
      rw [tk, LS.runs_append]
      exact st.at_
    · have kj : k = j := by omega
      subst kj
      exact q H1 L1 l1 n1

end
end PK
namespace PK
open PySem L2
section
variable {P : Program} {w : World} {K : PySem.W.Frag} {mg : Str → Option Value} {base : Heap}
def LS.new (h : Int) (gs : List (Str × Int)) : LS := ⟨h, gs, 0, [], [], [], [], [], []⟩
abbrev gdV (g : Str × Int) : List V := [.str g.1, .int g.2]
/-- guards, in a list or a tuple, each in a list or a tuple -/
def GdQ (K : PySem.W.Frag) (H : Hp) (v : V) (gs : List (Str × Int)) : Prop := ∃ a xs, v = .ref a ∧ Sq K H a xs ∧ Paired (fun x (g : Str × Int) => ∃ c, x = .ref c ∧ Sq K H c (gdV g)) xs gs
theorem GdQ.gr {K : PySem.W.Frag} {H H' : Hp} {v : V} {gs : List (Str × Int)} (h : GdQ K H v gs) (g : Gr [] H H') : GdQ K H' v gs := by
  obtain ⟨a, xs, e, q, p⟩ := h
  exact ⟨a, xs, e, q.gr g, Paired.mono (fun _ _ ⟨c, e, z⟩ => ⟨c, e, z.gr g⟩) p⟩
theorem new_fld {C p dx d : Addr} {fs : List (Str × V)} {f : Str} {o : HO} {H : Hp} (hp : H p = some (.ins C dx fs)) (nd : H d = none) :
    d ≠ p ∧ (upd H d o) p = some (.ins C dx fs) ∧ (upd (upd H d o) p (.ins C dx (putF f (.ref d) fs))) p = some (.ins C dx (putF f (.ref d) fs)) ∧ (upd (upd H d o) p (.ins C dx (putF f (.ref d) fs))) d = some o ∧ Gr [p] H (upd (upd H d o) p (.ins C dx (putF f (.ref d) fs))) := by
  have n : d ≠ p := fun e => by rw [e, hp] at nd; cases nd
  have e1 : (upd H d o) p = some (.ins C dx fs) := by rw [upd_ne n.symm]; exact hp
  refine ⟨n, e1, upd_same, by rw [upd_ne n]; exact upd_same, (Gr.new nd).trans (Gr.mut e1 (fun _ z => by cases z) (by simp))⟩
theorem sq_ins {K : PySem.W.Frag} {H H' : Hp} {p C dx a : Addr} {fs : List (Str × V)} {xs : List V} (h : Sq K H a xs) (g : Gr [p] H H') (hp : H p = some (.ins C dx fs)) : Sq K H' a xs := by
  rcases h with h | h
  · refine .inl ?_
    rcases h with (h | ⟨o, h⟩) | h
    · exact .inl (.inl (g.keep _ _ (fun z => by rw [List.mem_singleton.mp z, hp] at h; cases h) h))
    · exact .inl (.inr ⟨o, g.fix _ _ _ h⟩)
    · exact .inr h
  · rcases h with (h | ⟨o, h⟩) | h
    · exact .inr (.inl (.inl (g.tup _ _ h)))
    · exact .inr (.inl (.inr ⟨o, g.fix _ _ _ h⟩))
    · exact .inr (.inr h)
theorem WK.w_sfld {K : PySem.W.Frag} {ta tv : TE} {f : Str} {D : Ends} {σ : L2.St} {H : Hp} (k : tv σ H fun y H1 => ta σ H1 fun x H2 => ∃ a C dx fs, x = .ref a ∧ H2 a = some (.ins C dx fs) ∧ Cls K C ∧ NoAttr K C f ∧ fs.length < 1000 ∧ D.nx σ (upd H2 a (.ins C dx (putF f y fs)))) : sFld K ta tv f D σ H := k
theorem put_nil {x : Str} {v : V} : putF x v [] = [(x, v)] := rfl
def spNew (K : PySem.W.Frag) (C : Addr) : Sp := fun vs H Q _ => ∃ (p dx : Addr) (h : Int) (v : V) (gs : List (Str × Int)), vs = [.ref p, .int h, v] ∧ H p = some (.ins C dx []) ∧ GdQ K H v gs ∧ gs.length ≤ 1000 ∧
  ∀ (A : LA) (H' : Hp), Gr [p] H H' → (∀ x ∈ own p A [], x = p ∨ H x = none) → LogAt C H' p A [] (LS.new h gs) → Q .non H'
abbrev s_Log___init__ : Stmt := inClass (topS 6) 0
abbrev N_Log___init__ : List Str := ["self", "hold", "guards", "kind", "number"]
abbrev ps_Log___init__ : List Str := ["self", "hold", "guards"]
theorem sc_Log___init__ : FnScope N_Log___init__ ps_Log___init__ (defScope s_Log___init__) := ⟨rfl, rfl, rfl, by decide +kernel, rfl, by decide +kernel, by decide +kernel⟩
theorem ok_loginit {C : Addr} {dvs : List V} {f : Addr} {fd : FuncData} (F : FunD K "__init__" "Log.__init__" (defArgs s_Log___init__) (defBody s_Log___init__) (defScope s_Log___init__) dvs [] f fd) (T : Txt mg) (W : LogC K C) : FnOk P w K mg base CX0 1 f fd ps_Log___init__ (spNew K C) := by
  refine funD_ok F sc_Log___init__ (fun vs H Q E h => ?_) (fun cdv A' outer s' H vs Q E hr h => ?_)
  · obtain ⟨p, dx, h, v, gs, rfl, _⟩ := h
    rfl
  · obtain ⟨p, dx, h, v, gs, rfl, hp, hg, hn, q⟩ := h
    refine ⟨_, (pss_cons (ps_fld (pv 0) (pv 1) rfl)
(pss_cons (ps_fld (pv 0) (pe_callTy (call_tuple_ofK (K := K)) (by rfl) T.m_tuple (by decide +kernel) (pa_cons (pe_lc (own := [("kind", 3), ("number", 4)]) (g := (gSeq K 2 (gCons (gName 3) (gCons (gName 4) gNil))))  rfl sc_Log___init__.nd (pi_seq (pv 2)) (blkOk_by (own := [("kind", 3), ("number", 4)]) (N := N_Log___init__) (sc := defScope s_Log___init__) (by decide +kernel)) (fun _ _ _ _ _ => (pg_seqK (K := K) rfl (pgs_cons (pg_name (i := 3) sc_Log___init__.nd rfl (Or.inl rfl)) (pgs_cons (pg_name (i := 4) sc_Log___init__.nd rfl (Or.inl rfl)) pgs_nil)))) (fun _ _ _ _ _ => pts_nil) (fun _ _ _ _ _ => (pe_tup (pa_cons (pv 3) (pa_cons (pv 4) pa_nil))))) pa_nil)) rfl)
(pss_cons (ps_fld (pv 0) pe_int rfl)
(pss_cons (ps_fld (pv 0) (pe_lst pa_nil) rfl)
(pss_cons (ps_fld (pv 0) (pe_lst pa_nil) rfl)
(pss_cons (ps_fld (pv 0) (pe_lst pa_nil) rfl)
(pss_cons (ps_fld (pv 0) pe_dnewK rfl)
(pss_cons (ps_fld (pv 0) pe_dnewK rfl)
(pss_one (ps_fld (pv 0) (pe_lst pa_nil) rfl)))))))))), ?_⟩
    walk_at "w"
    refine ⟨_, rfl, _, rfl, p, C, dx, [], rfl, hp, W.cl, W.h, by simp, ?_⟩
    rw [put_nil]
    have g1 : Gr [p] H (upd H p (.ins C dx [(nH, .int h)])) := Gr.mut hp (fun _ z => by cases z) (by simp)
    have hp1 : (upd H p (.ins C dx [(nH, .int h)])) p = some (.ins C dx [(nH, .int h)]) := upd_same
    obtain ⟨a, xs, rfl, hq, pr⟩ := hg
    have hq1 := sq_ins hq g1 hp
    have pr1 : Paired (fun x (g : Str × Int) => ∃ c, x = .ref c ∧ Sq K (upd H p (.ins C dx [(nH, .int h)])) c (gdV g)) xs gs := Paired.mono (fun _ _ ⟨c, e, z⟩ => ⟨c, e, sq_ins z g1 hp⟩) pr
    dsimp only
    generalize (upd H p (.ins C dx [(nH, .int h)])) = H1 at *
    have lx : xs.length = gs.length := pr.length
    refine WK.w_seq ?_
    refine WK.w_sfld ?_
    walk_at "w"
    refine w_seqv rfl hq1 (Gr.refl _ _) (fun J G hG wk => ?_)
    refine lc_go wk (fun S j acc H' => Gr [] H1 H' ∧ Tps H' acc ((gs.take j).map gdV)) (fun S nS => ⟨Gr.new nS, .nil⟩) (fun S j acc H' _ ⟨g, _⟩ => hG _ g) ?_ ?_
    · rintro S j acc x H2 H3 nS hj hS la ⟨g2, t2⟩ ⟨rfl, e1⟩
      obtain ⟨g, he, c, rfl, hc⟩ := pr_get pr1 e1
      walk_at "w"
      refine w_gseq (hc.gr g2) rfl ?_
      walk_at "w"
      refine ⟨rfl, ?_⟩
      walk_at "w"
      rw [if_pos rfl]
      walk_at "w"
      refine ⟨WK.sz, fun t nt => ?_⟩
      have g3 : Gr [] H3 (upd H3 t (.tup (gdV g))) := Gr.new nt
      have et : (upd H3 t (.tup (gdV g))) t = some (.tup (gdV g)) := upd_same
      have hS3 := g3.k0 hS
      have t3 := t2.gr g3
      show LcY _ _ _ _ (upd H3 t (.tup (gdV g)))
      generalize (upd H3 t (.tup (gdV g))) = H4 at *
      have gD : Gr [S] H4 (upd H4 S (.lst (acc ++ [.ref t]))) := Gr.mutL hS3 (by simp)
      refine lc_yes hS3 la (by omega) ⟨(g2.trans g3).own gD nS, ?_⟩
      rw [take_snoc he, List.map_append]
      exact pr_append (t3.gr gD) (.cons ⟨t, rfl, gD.tup _ _ et⟩ .nil)
    · rintro S acc H2 nS hS la ⟨g2, t2⟩
      rw [lx, List.take_length] at t2
      walk_at "w"
      refine ⟨S, acc, rfl, .inl ⟨SqL.of hS, fun gu ngu => ?_⟩⟩
      have hp2 := g2.k0 hp1
      obtain ⟨x1, x2, hp3, o3, g3⟩ := new_fld (f := nG) (o := .tup acc) hp2 ngu
      refine ⟨_, rfl, p, C, dx, _, rfl, x2, W.cl, W.g, by simp, ?_⟩
      have t3 := t2.gr g3
      rw [put_ne (by decide +kernel), put_nil] at hp3 o3 g3 t3 ⊢
      generalize (upd (upd H2 gu (.tup acc)) p (.ins C dx [(nH, .int h), (nG, .ref gu)])) = H3 at *
      have G3 := (g1.trans (g2.mono (by simp))).trans g3
      refine WK.w_seq ?_
      refine WK.w_sfld ?_
      walk_at "w"
      refine ⟨p, C, dx, _, rfl, hp3, W.cl, W.t, by simp, ?_⟩
      have g4 : Gr [p] H3 (upd H3 p (.ins C dx (putF nT (.int 0) [(nH, .int h), (nG, .ref gu)]))) := Gr.mut hp3 (fun _ z => by cases z) (by simp)
      have hp4 : (upd H3 p (.ins C dx (putF nT (.int 0) [(nH, .int h), (nG, .ref gu)]))) p = _ := upd_same
      have o4 := g4.tup _ _ o3
      have t4 := t3.gr g4
      rw [put_ne (by decide +kernel), put_ne (by decide +kernel), put_nil] at hp4 g4 o4 t4 ⊢
      generalize (upd H3 p (.ins C dx [(nH, .int h), (nG, .ref gu), (nT, .int 0)])) = H4 at *
      have G4 := G3.trans g4
      refine WK.w_seq ?_
      refine WK.w_sfld ?_
      walk_at "w"
      refine ⟨WK.sz, fun e ne => ?_⟩
      have h_e : H e = none := G4.live _ ne
      obtain ⟨e1, e2, hp5, eo, g5⟩ := new_fld (f := nE) (o := (.lst [])) hp4 ne
      walk_at "w"
      refine ⟨p, C, dx, _, rfl, e2, W.cl, W.e, by simp, ?_⟩
      have t5 := t4.gr g5
      have o5 := g5.tup _ _ o4
      rw [put_ne (by decide +kernel), put_ne (by decide +kernel), put_ne (by decide +kernel), put_nil] at hp5 g5 t5 o5 eo ⊢
      generalize (upd (upd H4 e (.lst [])) p (.ins C dx [(nH, .int h), (nG, .ref gu), (nT, .int 0), (nE, .ref e)])) = H5 at *
      have G5 := G4.trans g5
      refine WK.w_seq ?_
      refine WK.w_sfld ?_
      walk_at "w"
      refine ⟨WK.sz, fun go ngo => ?_⟩
      have d_e_go : go ≠ e := fun z => by rw [z, eo] at ngo; cases ngo
      have h_go : H go = none := G5.live _ ngo
      obtain ⟨go1, go2, hp6, goo, g6⟩ := new_fld (f := nO) (o := (.lst [])) hp5 ngo
      walk_at "w"
      refine ⟨p, C, dx, _, rfl, go2, W.cl, W.o, by simp, ?_⟩
      have t6 := t5.gr g6
      have o6 := g6.tup _ _ o5
      have eo := g6.k1 eo e1
      rw [put_ne (by decide +kernel), put_ne (by decide +kernel), put_ne (by decide +kernel), put_ne (by decide +kernel), put_nil] at hp6 g6 t6 o6 goo eo ⊢
      generalize (upd (upd H5 go (.lst [])) p (.ins C dx [(nH, .int h), (nG, .ref gu), (nT, .int 0), (nE, .ref e), (nO, .ref go)])) = H6 at *
      have G6 := G5.trans g6
      refine WK.w_seq ?_
      refine WK.w_sfld ?_
      walk_at "w"
      refine ⟨WK.sz, fun si nsi => ?_⟩
      have d_e_si : si ≠ e := fun z => by rw [z, eo] at nsi; cases nsi
      have d_go_si : si ≠ go := fun z => by rw [z, goo] at nsi; cases nsi
      have h_si : H si = none := G6.live _ nsi
      obtain ⟨si1, si2, hp7, sio, g7⟩ := new_fld (f := nI) (o := (.lst [])) hp6 nsi
      walk_at "w"
      refine ⟨p, C, dx, _, rfl, si2, W.cl, W.i, by simp, ?_⟩
      have t7 := t6.gr g7
      have o7 := g7.tup _ _ o6
      have eo := g7.k1 eo e1
      have goo := g7.k1 goo go1
      rw [put_ne (by decide +kernel), put_ne (by decide +kernel), put_ne (by decide +kernel), put_ne (by decide +kernel), put_ne (by decide +kernel), put_nil] at hp7 g7 t7 o7 sio eo goo ⊢
      generalize (upd (upd H6 si (.lst [])) p (.ins C dx [(nH, .int h), (nG, .ref gu), (nT, .int 0), (nE, .ref e), (nO, .ref go), (nI, .ref si)])) = H7 at *
      have G7 := G6.trans g7
      refine WK.w_seq ?_
      refine WK.w_sfld ?_
      intro se nse
      have d_e_se : se ≠ e := fun z => by rw [z, eo] at nse; cases nse
      have d_go_se : se ≠ go := fun z => by rw [z, goo] at nse; cases nse
      have d_si_se : se ≠ si := fun z => by rw [z, sio] at nse; cases nse
      have h_se : H se = none := G7.live _ nse
      obtain ⟨se1, se2, hp8, seo, g8⟩ := new_fld (f := PK.nS) (o := (.dK [])) hp7 nse
      walk_at "w"
      refine ⟨p, C, dx, _, rfl, se2, W.cl, W.s, by simp, ?_⟩
      have t8 := t7.gr g8
      have o8 := g8.tup _ _ o7
      have eo := g8.k1 eo e1
      have goo := g8.k1 goo go1
      have sio := g8.k1 sio si1
      rw [put_ne (by decide +kernel), put_ne (by decide +kernel), put_ne (by decide +kernel), put_ne (by decide +kernel), put_ne (by decide +kernel), put_ne (by decide +kernel), put_nil] at hp8 g8 t8 o8 seo eo goo sio ⊢
      generalize (upd (upd H7 se (.dK [])) p (.ins C dx [(nH, .int h), (nG, .ref gu), (nT, .int 0), (nE, .ref e), (nO, .ref go), (nI, .ref si), (PK.nS, .ref se)])) = H8 at *
      have G8 := G7.trans g8
      refine WK.w_seq ?_
      refine WK.w_sfld ?_
      intro ta nta
      have d_e_ta : ta ≠ e := fun z => by rw [z, eo] at nta; cases nta
      have d_go_ta : ta ≠ go := fun z => by rw [z, goo] at nta; cases nta
      have d_si_ta : ta ≠ si := fun z => by rw [z, sio] at nta; cases nta
      have d_se_ta : ta ≠ se := fun z => by rw [z, seo] at nta; cases nta
      have h_ta : H ta = none := G8.live _ nta
      obtain ⟨ta1, ta2, hp9, tao, g9⟩ := new_fld (f := nA) (o := (.dK [])) hp8 nta
      walk_at "w"
      refine ⟨p, C, dx, _, rfl, ta2, W.cl, W.a, by simp, ?_⟩
      have t9 := t8.gr g9
      have o9 := g9.tup _ _ o8
      have eo := g9.k1 eo e1
      have goo := g9.k1 goo go1
      have sio := g9.k1 sio si1
      have seo := g9.k1 seo se1
      rw [put_ne (by decide +kernel), put_ne (by decide +kernel), put_ne (by decide +kernel), put_ne (by decide +kernel), put_ne (by decide +kernel), put_ne (by decide +kernel), put_ne (by decide +kernel), put_nil] at hp9 g9 t9 o9 tao eo goo sio seo ⊢
      generalize (upd (upd H8 ta (.dK [])) p (.ins C dx [(nH, .int h), (nG, .ref gu), (nT, .int 0), (nE, .ref e), (nO, .ref go), (nI, .ref si), (PK.nS, .ref se), (nA, .ref ta)])) = H9 at *
      have G9 := G8.trans g9
      refine WK.w_sfld ?_
      walk_at "w"
      refine ⟨WK.sz, fun co nco => ?_⟩
      have d_e_co : co ≠ e := fun z => by rw [z, eo] at nco; cases nco
      have d_go_co : co ≠ go := fun z => by rw [z, goo] at nco; cases nco
      have d_si_co : co ≠ si := fun z => by rw [z, sio] at nco; cases nco
      have d_se_co : co ≠ se := fun z => by rw [z, seo] at nco; cases nco
      have d_ta_co : co ≠ ta := fun z => by rw [z, tao] at nco; cases nco
      have h_co : H co = none := G9.live _ nco
      obtain ⟨co1, co2, hp10, coo, g10⟩ := new_fld (f := nC) (o := (.lst [])) hp9 nco
      walk_at "w"
      refine ⟨p, C, dx, _, rfl, co2, W.cl, W.c, by simp, ?_⟩
      have t10 := t9.gr g10
      have o10 := g10.tup _ _ o9
      have eo := g10.k1 eo e1
      have goo := g10.k1 goo go1
      have sio := g10.k1 sio si1
      have seo := g10.k1 seo se1
      have tao := g10.k1 tao ta1
      rw [put_ne (by decide +kernel), put_ne (by decide +kernel), put_ne (by decide +kernel), put_ne (by decide +kernel), put_ne (by decide +kernel), put_ne (by decide +kernel), put_ne (by decide +kernel), put_ne (by decide +kernel), put_nil] at hp10 g10 t10 o10 coo eo goo sio seo tao ⊢
      generalize (upd (upd H9 co (.lst [])) p (.ins C dx [(nH, .int h), (nG, .ref gu), (nT, .int 0), (nE, .ref e), (nO, .ref go), (nI, .ref si), (PK.nS, .ref se), (nA, .ref ta), (nC, .ref co)])) = H10 at *
      have G10 := G9.trans g10
      refine q ⟨gu, e, go, si, se, ta, co⟩ H10 G10 (fun x hx => ?_) ⟨⟨dx, hp10⟩, ⟨acc, o10, t10⟩, ⟨[], eo, .nil⟩, goo, sio, seo, tao, .nil, ⟨[], coo, .nil⟩, List.nodup_nil, ?_⟩
      · simp only [own, List.map_nil, List.mem_cons, List.not_mem_nil, or_false] at hx
        rcases hx with z | z | z | z | z | z | z
        · exact .inl z
        · exact .inr (by rw [z]; exact h_e)
        · exact .inr (by rw [z]; exact h_go)
        · exact .inr (by rw [z]; exact h_si)
        · exact .inr (by rw [z]; exact h_se)
        · exact .inr (by rw [z]; exact h_ta)
        · exact .inr (by rw [z]; exact h_co)
      · simp only [own, List.map_nil, List.nodup_cons, List.mem_cons, List.not_mem_nil, or_false, not_or, not_false_eq_true, List.nodup_nil, and_true]
        exact ⟨⟨e1.symm, go1.symm, si1.symm, se1.symm, ta1.symm, co1.symm⟩, ⟨d_e_go.symm, d_e_si.symm, d_e_se.symm, d_e_ta.symm, d_e_co.symm⟩, ⟨d_go_si.symm, d_go_se.symm, d_go_ta.symm, d_go_co.symm⟩, ⟨d_si_se.symm, d_si_ta.symm, d_si_co.symm⟩, ⟨d_se_ta.symm, d_se_co.symm⟩, d_ta_co.symm⟩
theorem has_loginit {C : Addr} (D : DfID K mg C "Log" "Log.__init__" s_Log___init__ ps_Log___init__) (T : Txt mg) (W : LogC K C) : HasI P w K mg base C 1 "Log" ps_Log___init__ (spNew K C) := HasI.mkD D fun dvs f fd F => ok_loginit F T W

end
end PK
namespace PK
open PySem L2
section
variable {P : Program} {w : World} {K : PySem.W.Frag} {mg : Str → Option Value} {base : Heap}
def LS.to (s : LS) (es : List Ev) (j : Nat) : LS := s.runs ((es.drop s.time.toNat).take (j - s.time.toNat))
def LS.swp (es : List Ev) (s : LS) (b : Int × Int) : LS := (s.to es b.1.toNat).sweep b.2
def LS.swps (s : LS) (es : List Ev) (bs : List (Int × Int)) : LS := bs.foldl (LS.swp es) s
structure LS.Runs (s0 : LS) (es : List Ev) (bs : List (Int × Int)) : Prop where
  at_ : ∀ (i : Nat) (b : Int × Int), bs[i]? = some b → (s0.swps es (bs.take i)).time ≤ b.1 ∧ b.1 ≤ es.length ∧ (s0.swps es (bs.take i)).Goes ((es.drop (s0.swps es (bs.take i)).time.toNat).take (b.1.toNat - (s0.swps es (bs.take i)).time.toNat)) ∧ 0 ≤ b.2 ∧ b.2 ≤ ((s0.swps es (bs.take i)).to es b.1.toNat).ents.length
  end_ : (s0.swps es bs).Goes ((es.drop (s0.swps es bs).time.toNat).take (es.length - (s0.swps es bs).time.toNat))
theorem sweep_time (s : LS) (u : Int) : (s.sweep u).time = s.time := rfl
theorem to_time {s : LS} {es : List Ev} {j : Nat} (h0 : 0 ≤ s.time) (h1 : s.time ≤ j) (h2 : j ≤ es.length) : (s.to es j).time = j := by
  unfold LS.to
  rw [LS.runs_time, List.length_take, List.length_drop]
  omega
theorem LS.Ok.to {s : LS} {es : List Ev} {j : Nat} (k : s.Ok s.time.toNat) (h1 : s.time ≤ j) (h2 : j ≤ es.length) (g : s.Goes ((es.drop s.time.toNat).take (j - s.time.toNat))) : (s.to es j).Ok j := by
  refine (k.runs g).up ?_
  rw [List.length_take, List.length_drop]
  omega
/-- sweeps, in a list or a tuple -/
def SwQ (K : PySem.W.Frag) (H : Hp) (v : V) (bs : List (Int × Int)) : Prop := ∃ a xs, v = .ref a ∧ Sq K H a xs ∧ Paired (fun x (b : Int × Int) => ∃ c, x = .ref c ∧ Sq K H c [.int b.1, .int b.2]) xs bs
theorem SwQ.gr {K : PySem.W.Frag} {H H' : Hp} {v : V} {bs : List (Int × Int)} (h : SwQ K H v bs) (g : Gr [] H H') : SwQ K H' v bs := by
  obtain ⟨a, xs, e, q, p⟩ := h
  exact ⟨a, xs, e, q.gr g, Paired.mono (fun _ _ ⟨c, e, z⟩ => ⟨c, e, z.gr g⟩) p⟩
theorem WK.w_mk {C : Addr} {sp : Sp} {dvs : List V} {E : XK} {t : TA} {σ : L2.St} {H : Hp} {Q : VK} (k : t σ H fun vs H1 => ∀ x dx, H1 x = none → H1 dx = none → dx ≠ x → sp (.ref x :: (vs ++ dvs)) (upd (upd H1 dx (.own x)) x (.ins C dx [])) (fun v H2 => v = .non ∧ Q (.ref x) H2) E) : tMake C sp dvs E t σ H Q := k
theorem LS.Ok.new {h : Int} {gs : List (Str × Int)} (g0 : ∀ g ∈ gs, 0 ≤ g.2) : (LS.new h gs).Ok 0 := ⟨rfl, rfl, Nat.le_refl _, (by intro _ z; cases z), Nat.le_refl _, Nat.le_refl _, (by intro _ z; cases z), Nat.le_refl _, g0, (by intro _ z; cases z), (by intro _ z; cases z)⟩
def spRun (K : PySem.W.Frag) (C : Addr) : Sp := fun vs H Q _ => ∃ (v sw gv : V) (h : Int) (es : List Ev) (bs : List (Int × Int)) (gs : List (Str × Int)), vs = [v, .int h, sw, gv] ∧ TabQ K H v es ∧ SwQ K H sw bs ∧ GdQ K H gv gs ∧
  es.length ≤ 100 ∧ gs.length ≤ 1000 ∧ (∀ g ∈ gs, 0 ≤ g.2) ∧ (LS.new h gs).Runs es bs ∧
  ∀ p A L H', Gr [] H H' → H p = none → LogAt C H' p A L (((LS.new h gs).swps es bs).to es es.length) → Newer H H' p A L → Q (.ref p) H'
abbrev s_run : Stmt := topS 7
abbrev N_run : List Str := ["timetable", "hold", "sweeps", "guards", "log", "time", "point"]
abbrev ps_run : List Str := ["timetable", "hold", "sweeps", "guards"]
theorem sc_run : FnScope N_run ps_run (defScope s_run) := ⟨rfl, rfl, rfl, by decide +kernel, rfl, by decide +kernel, by decide +kernel⟩
theorem has_run {C : Addr} {dvs : List V} {f : Addr} {fd : FuncData} (F : FunD K "run" "run" (defArgs s_run) (defBody s_run) (defScope s_run) dvs [] f fd) (T : Txt mg) (W : LogC K C) (I_Log : HasI P w K mg base C 1 "Log" ps_Log___init__ (spNew K C))
    (G_do_ahead_of : Has P w K mg base 7 "_do_ahead_of" ps_do_ahead_of (spAhead K C)) (G_Log_sweep : HasM P w K mg base C 3 "sweep" ps_Log_sweep (spSweep C)) :
    FnOk P w K mg base CX0 8 f fd ps_run (spRun K C) := by
  have CL_Log := W.cl
  refine funD_ok F sc_run (fun vs H Q E h => ?_) (fun cdv A' outer s' H vs Q E hr h => ?_)
  · obtain ⟨v, sw, gv, h, es, bs, gs, rfl, _⟩ := h
    rfl
  · obtain ⟨v, sw, gv, h, es, bs, gs, rfl, ht, hs, hg, e90, g1000, g0, rn, q⟩ := h
    refine ⟨_, (pss_cons (ps_set (i := 4) sc_run.nd rfl (Or.inl rfl) (pe_makeA I_Log (hr.mono (by decide)) (by rfl) (pa_cons (pv 1) (pa_cons (pv 3) pa_nil))))
(pss_cons (ps_for PassesOwn.never rfl (pi_seq (pv 2)) (pg_seq rfl (pgs_cons (pg_name (i := 5) sc_run.nd rfl (Or.inl rfl)) (pgs_cons (pg_name (i := 6) sc_run.nd rfl (Or.inl rfl)) pgs_nil)))
  (pss_cons (ps_expr (pe_callH G_do_ahead_of (hr.mono (by decide)) (by rfl) (pa_cons (pv 4) (pa_cons (pv 0) (pa_cons (pv 5) pa_nil)))))
  (pss_one (ps_expr (pe_methH (pv 4) G_Log_sweep CL_Log (hr.mono (by decide)) (pa_cons (pv 6) pa_nil))))))
(pss_cons (ps_expr (pe_callH G_do_ahead_of (hr.mono (by decide)) (by rfl) (pa_cons (pv 4) (pa_cons (pv 0) (pa_cons (pe_callB (call_len_seqK (K := K)) (by rfl) T.m_len (by decide +kernel) (pa_cons (pv 0) pa_nil)) pa_nil)))))
(pss_one (ps_ret (pv 4)))))), ?_⟩
    walk_at "w"
    refine WK.w_mk ?_
    walk_at "w"
    intro p dx np ndx hne
    have g1 : Gr [] H (upd (upd H dx (.own p)) p (.ins C dx [])) := (Gr.new ndx).trans (Gr.new (by rw [upd_ne hne.symm]; exact np))
    have hp1 : (upd (upd H dx (.own p)) p (.ins C dx [])) p = some (.ins C dx []) := upd_same
    generalize (upd (upd H dx (.own p)) p (.ins C dx [])) = H1 at *
    refine ⟨p, dx, h, gv, gs, rfl, hp1, hg.gr g1, g1000, fun A H2 g2 own2 l2 => ⟨rfl, ?_⟩⟩
    have nw2 : Newer H H2 p A [] := ⟨g1.own g2 np, fun x hx => (own2 x hx).elim (fun e => by rw [e]; exact np) fun e => g1.live _ e⟩
    clear own2 hp1 g2 g1
    walk_at "w"
    obtain ⟨a, xs, rfl, hq, pr⟩ := hs
    have lx : xs.length = bs.length := pr.length
    refine w_seqv rfl hq nw2.g (fun J G hG wk => ?_)
    refine lp_it wk (fun i σ' H' => ∃ L' y5 y6, σ' = [some v, some (.int h), some (.ref a), some gv, some (.ref p), y5, y6] ∧ Newer H H' p A L' ∧ LogAt C H' p A L' ((LS.new h gs).swps es (bs.take i)) ∧ ((LS.new h gs).swps es (bs.take i)).Ok ((LS.new h gs).swps es (bs.take i)).time.toNat ∧
      0 ≤ ((LS.new h gs).swps es (bs.take i)).time ∧ ((LS.new h gs).swps es (bs.take i)).time ≤ es.length) ⟨[], none, none, rfl, nw2, l2, LS.Ok.new g0, Int.le_refl _, by show (0 : Int) ≤ _; omega⟩ (fun i σ' H' _ ⟨_, _, _, _, n, _⟩ => hG _ n.g) ?_ ?_
    · rintro i x _ H3 H4 hi ⟨L3, y5, y6, rfl, n3, l3, o3, t3, u3⟩ ⟨rfl, e1⟩
      obtain ⟨b, hb, c, rfl, hc⟩ := pr_get pr e1
      obtain ⟨r1, r2, r3, r4, r5⟩ := rn.at_ i b hb
      have tk : (LS.new h gs).swps es (bs.take (i + 1)) = LS.swp es ((LS.new h gs).swps es (bs.take i)) b := by
        unfold LS.swps
        rw [take_snoc hb, List.foldl_append]
        rfl
      rw [tk]
      generalize (LS.new h gs).swps es (bs.take i) = s at *
      obtain ⟨bt, bp⟩ := b
      dsimp only at r1 r2 r3 r4 r5 hc
      obtain ⟨j, rfl⟩ : ∃ j : Nat, bt = (j : Int) := ⟨bt.toNat, by omega⟩
      obtain ⟨k, hk⟩ : ∃ k : Nat, s.time = (k : Int) := ⟨s.time.toNat, by omega⟩
      have o4 := o3.to r1 (by omega) r3
      have t4 := to_time t3 r1 (show j ≤ es.length by omega)
      refine w_gseq (hc.gr n3.g) rfl ?_
      walk_at "w"
      refine ⟨H, p, A, L3, s, k, v, es, k, j, rfl, l3, n3, ht, ?_, by omega, hk, by omega, by omega, ?_, fun H5 L5 l5 n5 => ?_⟩
      · rw [hk] at o3
        exact o3
      · rw [hk] at r3
        exact r3
      · have l5 : LogAt C H5 p A L5 (s.to es j) := by
          unfold LS.to
          rw [hk]
          exact l5
        obtain ⟨dx5, ho5⟩ := id l5.ob
        walk_at "w"
        refine WK.w_meth rfl ho5 lF_none ?_
        walk_at "w"
        refine ⟨p, A, L5, s.to es j, bp, rfl, l5, o4.up (by omega), r4, r5, fun l H6 g6 l6 _ _ => ?_⟩
        refine ⟨L5, _, _, rfl, n5.stp (Stp.one g6 l6), l6, ?_, ?_, ?_⟩
        · show ((s.to es j).sweep bp).Ok ((s.to es j).sweep bp).time.toNat
          rw [sweep_time, t4]
          exact o4.swept' bp
        · show 0 ≤ ((s.to es j).sweep bp).time
          rw [sweep_time, t4]
          omega
        · show ((s.to es j).sweep bp).time ≤ _
          rw [sweep_time, t4]
          omega
    · rintro σ2 H3 ⟨L3, y5, y6, rfl, n3, l3, o3, t3, u3⟩
      have re := rn.end_
      rw [lx, List.take_length] at l3 o3 t3 u3
      have q : ∀ H' L', Newer H H' p A L' → LogAt C H' p A L' (((LS.new h gs).swps es bs).to es es.length) → Q (.ref p) H' := fun H' L' n l => q p A L' H' n.g np l n
      generalize (LS.new h gs).swps es bs = s at *
      obtain ⟨k, hk⟩ : ∃ k : Nat, s.time = (k : Int) := ⟨s.time.toNat, by omega⟩
      obtain ⟨ta, txs, rfl, tq, tpr⟩ := id ht
      have tl : txs.length = es.length := tpr.length
      walk_at "w"
      refine ⟨ta, txs, rfl, tq.gr n3.g, ?_⟩
      rw [tl]
      walk_at "w"
      refine ⟨H, p, A, L3, s, k, _, es, k, es.length, rfl, l3, n3, ht, ?_, by omega, hk, by omega, by omega, ?_, fun H5 L5 l5 n5 => ?_⟩
      · rw [hk] at o3
        exact o3
      · rw [hk] at re
        exact re
      · have l5 : LogAt C H5 p A L5 (s.to es es.length) := by
          unfold LS.to
          rw [hk]
          exact l5
        walk_at "w"
        exact q _ _ n5 l5

end
end PK
namespace PK
open PySem L2
section
variable {P : Program} {w : World} {K : PySem.W.Frag} {mg : Str → Option Value} {base : Heap}
theorem getA_off {α β : Type} [DecidableEq α] {l : List (α × β)} {a c : α} {b : β} (n : ¬ c = a) : getA (putA l a b) c = getA l c := by
  have fnd : ∀ l : List (α × β), (l.map fun p => if p.1 = a then (p.1, b) else p).find? (fun p => decide (p.1 = c)) = l.find? (fun p => decide (p.1 = c)) := by
    intro l
    induction l with
    | nil => rfl
    | cons p l ih =>
      rw [List.map_cons, List.find?_cons, List.find?_cons, ih]
      by_cases e : p.1 = a
      · rw [if_pos e]
        have : ¬ p.1 = c := fun z => n (by rw [← z, e])
        simp [this]
      · rw [if_neg e]
  unfold putA getA
  split
  · rw [fnd]
  · rw [List.find?_append]
    have z : ([(a, b)] : List (α × β)).find? (fun p => decide (p.1 = c)) = none := by
      have : ¬ a = c := fun z => n z.symm
      simp [this]
    rw [z, Option.or_none]
/-- a Log that has come as far as these readers, copies, entries -/
structure Sim (s : LS) (ws : WS) : Prop where
  se : ∀ r, getA s.seats r = ws.seats r
  en : (s.ents.length : Int) = ws.many
  co : s.copies.map (·.1) = ws.copies
  ta : ∀ r z, getA s.seats r = some z → ∃ tb, getA s.tabs r = some tb
theorem Sim.nil (h : Int) (gs : List (Str × Int)) : Sim (LS.new h gs) .nil := ⟨fun _ => rfl, rfl, rfl, fun r z e => by cases e⟩
theorem Sim.fits {s : LS} {ws : WS} (m : Sim s ws) {e : Ev} (f : ws.fits e) : s.fits e := by
  cases e with
  | read r u =>
    obtain ⟨z, f1, f2, f3⟩ := f
    rw [← m.se] at f1
    obtain ⟨tb, ht⟩ := m.ta r z f1
    exact ⟨z, tb, f1, ht, f2, by rw [m.en]; exact f3⟩
  | save r =>
    obtain ⟨z, f1⟩ := f
    rw [← m.se] at f1
    obtain ⟨tb, ht⟩ := m.ta r z f1
    exact ⟨z, tb, f1, ht⟩
  | load r c =>
    obtain ⟨f1, f2⟩ := f
    rw [← m.co, List.length_map] at f2
    exact ⟨f1, f2⟩
  | put _ _ => trivial
  | drop _ => trivial
  | join _ => trivial
  | wait => trivial
theorem Sim.seat {s s' : LS} {ws : WS} (m : Sim s ws) {r q : Int} {tb : List (Str × Int)} (h1 : s'.seats = putA s.seats r q) (h2 : s'.tabs = putA s.tabs r tb) (h3 : s'.ents = s.ents) (h4 : s'.copies = s.copies) : Sim s' (ws.seat r q) := by
  refine ⟨fun i => ?_, by rw [h3]; exact m.en, by rw [h4]; exact m.co, fun i z e => ?_⟩
  · rw [h1]
    show _ = (if i = r then some q else ws.seats i)
    by_cases e : i = r
    · rw [if_pos e, e, getA_put]
    · rw [if_neg e, getA_off e, m.se]
  · rw [h1] at e
    rw [h2]
    by_cases n : i = r
    · exact ⟨tb, by rw [n, getA_put]⟩
    · rw [getA_off n] at e ⊢
      exact m.ta i z e
theorem Sim.same {s s' : LS} {ws : WS} (m : Sim s ws) (h1 : s'.seats = s.seats) (h2 : s'.tabs = s.tabs) (h3 : s'.ents = s.ents) (h4 : s'.copies = s.copies) : Sim s' ws :=
  ⟨fun r => by rw [h1]; exact m.se r, by rw [h3]; exact m.en, by rw [h4]; exact m.co, fun r z e => by rw [h1] at e; rw [h2]; exact m.ta r z e⟩
theorem Sim.sweep {s : LS} {ws : WS} (m : Sim s ws) (u : Int) : Sim (s.sweep u) ws := m.same rfl rfl rfl rfl
theorem Sim.entry {s s' : LS} {ws : WS} (m : Sim s ws) {x : Str × Option Int} (h1 : s'.seats = s.seats) (h2 : s'.tabs = s.tabs) (h3 : s'.ents = s.ents ++ [x]) (h4 : s'.copies = s.copies) : Sim s' { ws with many := ws.many + 1 } :=
  ⟨fun r => by rw [h1]; exact m.se r, by rw [h3, List.length_append, List.length_singleton]; have := m.en; show _ = ws.many + 1; omega, by rw [h4]; exact m.co, fun r z e => by rw [h1] at e; rw [h2]; exact m.ta r z e⟩
theorem Sim.does {s : LS} {ws : WS} (m : Sim s ws) (e : Ev) : Sim (s.does e) (ws.step e) := by
  cases e with
  | put k v => exact m.entry (x := (k, some v)) rfl rfl rfl rfl
  | drop k => exact m.entry (x := (k, none)) rfl rfl rfl rfl
  | join r => exact m.seat (tb := []) rfl rfl rfl rfl
  | read r u => exact m.seat rfl rfl rfl rfl
  | save r =>
    refine ⟨m.se, m.en, ?_, m.ta⟩
    show (s.copies ++ [((getA s.seats r).getD 0, s.tab r)]).map (·.1) = ws.copies ++ [(ws.seats r).getD 0]
    rw [List.map_append, m.co, m.se]
    rfl
  | load r c =>
    have e : (s.copies.getD c.toNat (0, [])).1 = ws.copies.getD c.toNat 0 := by
      rw [← m.co, List.getD_eq_getElem?_getD, List.getD_eq_getElem?_getD, List.getElem?_map]
      cases s.copies[c.toNat]? <;> rfl
    show Sim _ (ws.seat r (ws.copies.getD c.toNat 0))
    rw [← e]
    exact m.seat rfl rfl rfl rfl
  | wait => exact m.same rfl rfl rfl rfl
theorem Sim.goes : ∀ {es : List Ev} {s : LS} {ws : WS}, Sim s ws → Valid ws es → s.Goes es ∧ Sim (s.runs es) (ws.run es)
  | [], _, _, m, _ => ⟨trivial, m⟩
  | e :: es, s, ws, m, v => by
    obtain ⟨h1, h2⟩ := Sim.goes (es := es) (m.does e) v.2
    exact ⟨⟨m.fits v.1, h1⟩, h2⟩
/-- sweeps that can be: by times that never fall, up to as many entries as there are then -/
structure SwOk (es : List Ev) (bs : List (Int × Int)) : Prop where
  up : bs.Pairwise fun x y => x.1 ≤ y.1
  at_ : ∀ b ∈ bs, 0 ≤ b.1 ∧ b.1 ≤ es.length ∧ 0 ≤ b.2 ∧ b.2 ≤ (WS.nil.run (es.take b.1.toNat)).many
theorem take_two {α : Type} (l : List α) {k j : Nat} (h : k ≤ j) : l.take j = l.take k ++ (l.drop k).take (j - k) := by
  have e := List.take_add (l := l) (i := k) (j := j - k)
  rw [show k + (j - k) = j from by omega] at e
  exact e
/-- a Log at time k that has come as far as the first k events -/
structure Far (es : List Ev) (s : LS) (k : Nat) : Prop where
  t : s.time = k
  l : k ≤ es.length
  m : Sim s (WS.nil.run (es.take k))
theorem Far.go {es : List Ev} {s : LS} {k j : Nat} (f : Far es s k) (v : Valid .nil es) (kj : k ≤ j) (jl : j ≤ es.length) : s.Goes ((es.drop k).take (j - k)) ∧ Far es (s.to es j) j := by
  have e := take_two es kj
  have vt : Valid .nil (es.take j) := by
    have z := v
    rw [← List.take_append_drop j es] at z
    exact (valid_append.mp z).1
  rw [e] at vt
  obtain ⟨h1, h2⟩ := f.m.goes (valid_append.mp vt).2
  refine ⟨h1, ⟨?_, jl, ?_⟩⟩
  · exact to_time (by rw [f.t]; omega) (by rw [f.t]; omega) jl
  · unfold LS.to
    rw [f.t, Int.toNat_natCast, e, run_append]
    exact h2
theorem Far.swp {es : List Ev} {s : LS} {k : Nat} (f : Far es s k) (u : Int) : Far es (s.sweep u) k := ⟨f.t, f.l, f.m.sweep u⟩
theorem swps_snoc (s : LS) (es : List Ev) (bs : List (Int × Int)) {i : Nat} {b : Int × Int} (h : bs[i]? = some b) : s.swps es (bs.take (i + 1)) = LS.swp es (s.swps es (bs.take i)) b := by
  unfold LS.swps
  rw [take_snoc h, List.foldl_append]
  rfl
theorem far_at {es : List Ev} {bs : List (Int × Int)} (v : Valid .nil es) (ok : SwOk es bs) (h : Int) (gs : List (Str × Int)) : ∀ i, i ≤ bs.length → ∃ k, Far es ((LS.new h gs).swps es (bs.take i)) k ∧ ∀ n b, i ≤ n → bs[n]? = some b → (k : Int) ≤ b.1
  | 0, _ => ⟨0, ⟨rfl, Nat.zero_le _, Sim.nil h gs⟩, fun n b _ e => (ok.at_ b (List.mem_of_getElem? e)).1⟩
  | i + 1, hi => by
    obtain ⟨k, f, up⟩ := far_at v ok h gs i (by omega)
    have hb : bs[i]? = some (bs[i]'(by omega)) := List.getElem?_eq_getElem _
    generalize bs[i]'(by omega) = b at *
    obtain ⟨o1, o2, o3, o4⟩ := ok.at_ b (List.mem_of_getElem? hb)
    have kb := up i b (Nat.le_refl _) hb
    obtain ⟨_, f2⟩ := f.go v (j := b.1.toNat) (by omega) (by omega)
    refine ⟨b.1.toNat, ?_, fun n c hn hc => ?_⟩
    · rw [swps_snoc _ _ _ hb]
      exact f2.swp b.2
    · have z : b.1 ≤ c.1 := by
        obtain ⟨l1, e1⟩ := List.getElem?_eq_some_iff.mp hb
        obtain ⟨l2, e2⟩ := List.getElem?_eq_some_iff.mp hc
        rw [← e1, ← e2]
        exact List.pairwise_iff_getElem.mp ok.up i n l1 l2 (by omega)
      omega
theorem runs_of {es : List Ev} {bs : List (Int × Int)} (v : Valid .nil es) (ok : SwOk es bs) (h : Int) (gs : List (Str × Int)) : (LS.new h gs).Runs es bs := by
  refine ⟨fun i b hb => ?_, ?_⟩
  · have il := (List.getElem?_eq_some_iff.mp hb).1
    obtain ⟨k, f, up⟩ := far_at v ok h gs i (by omega)
    obtain ⟨o1, o2, o3, o4⟩ := ok.at_ b (List.mem_of_getElem? hb)
    have kb := up i b (Nat.le_refl _) hb
    obtain ⟨g, f2⟩ := f.go v (j := b.1.toNat) (by omega) (by omega)
    refine ⟨by rw [f.t]; exact kb, o2, ?_, o3, ?_⟩
    · rw [f.t, Int.toNat_natCast]
      exact g
    · rw [f2.m.en]
      exact o4
  · obtain ⟨k, f, _⟩ := far_at v ok h gs bs.length (Nat.le_refl _)
    rw [List.take_length] at f
    rw [f.t, Int.toNat_natCast]
    exact (f.go v f.l (Nat.le_refl _)).1

end
end PK
namespace PK
open PySem L2
section
variable {P : Program} {w : World} {K : PySem.W.Frag} {mg : Str → Option Value} {base : Heap}
/-- the place of the last entry of a key among the first n -/
def lastN (l : List (Str × Option Int)) (k : Str) : Nat → Option Nat
  | 0 => none
  | n + 1 => if (l.getD n ("", none)).1 = k then some n else lastN l k n
def LS.last (s : LS) (k : Str) : Option Nat := lastN s.ents k s.ents.length
def plV : Option Nat → V
  | none => .non
  | some i => .int (i : Nat)
def spLast (C : Addr) : Sp := fun vs H Q _ => ∃ (p : Addr) (A : LA) (L : List (Int × Addr)) (s : LS) (k : Str), vs = [.ref p, .str k] ∧ LogAt C H p A L s ∧ s.ents.length ≤ 1000 ∧ ∀ H', Gr [] H H' → Q (plV (s.last k)) H'
abbrev s_Log_last : Stmt := inClass (topS 6) 20
abbrev N_Log_last : List Str := ["self", "key", "found", "place", "name", "_"]
abbrev ps_Log_last : List Str := ["self", "key"]
theorem sc_Log_last : FnScope N_Log_last ps_Log_last (defScope s_Log_last) := ⟨rfl, rfl, rfl, by decide +kernel, rfl, by decide +kernel, by decide +kernel⟩
theorem has_loglast {C : Addr} (D : DfM K C "last" "Log.last" s_Log_last ps_Log_last) (T : Txt mg) (W : LogC K C) : HasM P w K mg base C 1 "last" ps_Log_last (spLast C) := HasM.mk' D fun f fd F => by
  refine F.ok sc_Log_last (fun vs H Q E h => ?_) (fun cdv A' outer s' H vs Q E hr h => ?_)
  · obtain ⟨p, A, L, s, k, rfl, _⟩ := h
    rfl
  · obtain ⟨p, A, L, s, k, rfl, hl, hn, q⟩ := h
    refine ⟨_, (pss_cons (ps_set (i := 2) sc_Log_last.nd rfl (Or.inl rfl) pe_non)
(pss_cons (ps_for PassesOwn.never rfl (pi_enum (by rfl) T.m_enumerate (pa_cons (pe_fld (pv 0) rfl) pa_nil)) (pg_tup rfl (pgs_cons (pg_name (i := 3) sc_Log_last.nd rfl (Or.inl rfl)) (pgs_cons (pg_tup rfl (pgs_cons (pg_name (i := 4) sc_Log_last.nd rfl (Or.inl rfl)) (pgs_cons (pg_name (i := 5) sc_Log_last.nd rfl (Or.inl rfl)) pgs_nil))) pgs_nil)))
  (pss_one (ps_if (pt_cmpR op_eq (pv 4) (pv 1) (nomark _))
    (pss_one (ps_set (i := 2) sc_Log_last.nd rfl (Or.inl rfl) (pv 3)))
    pss_nil)))
(pss_one (ps_ret (pv 2))))), ?_⟩
    obtain ⟨es, en1, en2⟩ := id hl.en
    have el : es.length = s.ents.length := by rw [en2.length, List.length_map]
    walk_at "w"
    refine w_enum ?_
    walk_at "w"
    refine hl.fnE W rfl ?_
    walk_at "w"
    refine ⟨A.en, es, rfl, SqL.of en1, ?_⟩
    refine lp_it (walk_enum (K := K) (a := A.en) (xs := es)) (fun i σ' H' => ∃ y3 y4 y5, σ' = [some (.ref p), some (.str k), some (plV (lastN s.ents k i)), y3, y4, y5] ∧ Gr [] H H')
      ⟨none, none, none, rfl, Gr.refl _ _⟩ (fun i σ' H' _ ⟨_, _, _, _, g⟩ => SqL.of (g.k0 en1)) ?_ ?_
    · rintro j x _ H1 H2 hj ⟨y3, y4, y5, rfl, g1⟩ ⟨tt, v1, v2, rfl, nt, rfl, e1, e2⟩
      cases e1
      have jl : j < s.ents.length := by omega
      obtain ⟨y, f1, c, rfl, f2⟩ := pr_get en2 e2
      have ej : s.ents[j]? = some s.ents[j] := List.getElem?_eq_getElem jl
      rw [List.getElem?_map, ej] at f1
      cases f1
      have g2 : Gr [] H1 (upd H1 tt (.tup [.int (j : Nat), .ref c])) := Gr.new nt
      have et : (upd H1 tt (.tup [.int (j : Nat), .ref c])) tt = some (.tup [.int (j : Nat), .ref c]) := upd_same
      have g02 := g1.trans g2
      generalize (upd H1 tt (.tup [.int (j : Nat), .ref c])) = H2 at *
      have fc := g02.tup _ _ f2
      have sc : lastN s.ents k (j + 1) = if s.ents[j].1 = k then some j else lastN s.ents k j := by
        show (if (s.ents.getD j ("", none)).1 = k then _ else _) = _
        rw [getD_of ej]
      rw [sc]
      generalize s.ents[j] = e at *
      walk_at "w"
      walk_at "i"
      refine ite2 (fun h => ?_) (fun h => ?_)
      · walk_at "w"
        rw [if_pos (by simpa using h)]
        exact ⟨_, _, _, rfl, g02⟩
      · rw [if_neg (by simpa using h)]
        exact ⟨_, _, _, rfl, g02⟩
    · rintro σ2 H2 ⟨y3, y4, y5, rfl, g2⟩
      rw [el]
      walk_at "w"
      exact q _ g2

end
end PK
namespace PK
open PySem L2
section
variable {P : Program} {w : World} {K : PySem.W.Frag} {mg : Str → Option Value} {base : Heap}
/-- whether the last entry of a key, which has one, is a mark below a place -/
def LS.isd (s : LS) (k : Str) (z : Int) : Bool := match s.last k with
  | some i => decide ((i : Int) < z) && (s.ents.getD i ("", none)).2.isNone
  | none => false
def spIsd (C : Addr) : Sp := fun vs H Q _ => ∃ (p : Addr) (A : LA) (L : List (Int × Addr)) (s : LS) (k : Str) (z : Int) (i : Nat), vs = [.ref p, .str k, .int z] ∧ LogAt C H p A L s ∧ s.ents.length ≤ 1000 ∧ s.last k = some i ∧ ∀ H', Gr [] H H' → Q (.bl (s.isd k z)) H'
theorem lastN_lt {l : List (Str × Option Int)} {k : Str} {i : Nat} : ∀ {n : Nat}, lastN l k n = some i → i < n
  | 0, h => by cases h
  | n + 1, h => by
    have h : (if (l.getD n ("", none)).1 = k then some n else lastN l k n) = some i := h
    by_cases e : (l.getD n ("", none)).1 = k
    · rw [if_pos e] at h
      cases h
      exact Nat.lt_succ_self _
    · rw [if_neg e] at h
      exact Nat.lt_succ_of_lt (lastN_lt h)
abbrev s_Log__is_dropped : Stmt := inClass (topS 6) 25
abbrev N_Log__is_dropped : List Str := ["self", "key", "seat", "place"]
abbrev ps_Log__is_dropped : List Str := ["self", "key", "seat"]
theorem sc_Log__is_dropped : FnScope N_Log__is_dropped ps_Log__is_dropped (defScope s_Log__is_dropped) := ⟨rfl, rfl, rfl, by decide +kernel, rfl, by decide +kernel, by decide +kernel⟩
theorem has_logisd {C : Addr} (D : DfM K C "_is_dropped" "Log._is_dropped" s_Log__is_dropped ps_Log__is_dropped) (T : Txt mg) (W : LogC K C) (G_Log_last : HasM P w K mg base C 1 "last" ps_Log_last (spLast C)) : HasM P w K mg base C 2 "_is_dropped" ps_Log__is_dropped (spIsd C) := HasM.mk' D fun f fd F => by
  have CL_Log := W.cl
  refine F.ok sc_Log__is_dropped (fun vs H Q E h => ?_) (fun cdv A' outer s' H vs Q E hr h => ?_)
  · obtain ⟨p, A, L, s, k, z, i, rfl, _⟩ := h
    rfl
  · obtain ⟨p, A, L, s, k, z, i, rfl, hl, hn, hi, q⟩ := h
    refine ⟨_, (pss_cons (ps_set (i := 3) sc_Log__is_dropped.nd rfl (Or.inl rfl) (pe_methH (pv 0) G_Log_last CL_Log (hr.mono (by decide)) (pa_cons (pv 1) pa_nil)))
(pss_one (ps_ret (pe_and (pe_cmpR op_lt (pv 3) (pv 2) (nomark _)) (pe_one (pe_cmpR op_isN (pe_ix (ix_tupK (K := K)) (pe_ix (ix_listK (K := K)) (pe_fld (pv 0) rfl) (pv 3) (fun _ _ => rfl)) pe_int (fun _ _ => rfl)) pe_non (nomark _))))))), ?_⟩
    obtain ⟨dx, ho⟩ := id hl.ob
    walk_at "w"
    refine WK.w_meth rfl ho lF_none ?_
    walk_at "w"
    refine ⟨p, A, L, s, k, rfl, hl, hn, fun H1 g1 => ?_⟩
    rw [hi]
    have q := q H1 g1
    have il : i < s.ents.length := lastN_lt hi
    have ei : s.ents[i]? = some s.ents[i] := List.getElem?_eq_getElem il
    have isd : s.isd k z = (decide ((i : Int) < z) && s.ents[i].2.isNone) := by
      unfold LS.isd
      rw [hi]
      show (decide ((i : Int) < z) && (s.ents.getD i ("", none)).2.isNone) = _
      rw [getD_of ei]
    rw [isd] at q
    have l1 := hl.k0 g1
    obtain ⟨es, en1, en2⟩ := id l1.en
    obtain ⟨v, hv, c, rfl, hc⟩ : ∃ v, es[i]? = some v ∧ ∃ c, v = .ref c ∧ H1 c = some (.tup [.str s.ents[i].1, optV s.ents[i].2]) := by
      have il2 : i < es.length := by rw [en2.length, List.length_map]; exact il
      have e2 : es[i]? = some es[i] := List.getElem?_eq_getElem il2
      obtain ⟨y, f1, c, f2, f3⟩ := pr_get en2 e2
      rw [List.getElem?_map, ei] at f1
      cases f1
      exact ⟨_, e2, c, f2, f3⟩
    generalize s.ents[i] = e at *
    walk_at "w"
    walk_at "i"
    dsimp only [plV]
    walk_at "w"
    refine ite2 (fun h => ?_) (fun h => ?_)
    · walk_at "w"
      refine l1.fnE W rfl ?_
      walk_at "w"
      refine WK.w_ixL en1 hv ?_
      walk_at "w"
      rw [show decide ((i : Int) < z) = true from by simpa using h, Bool.true_and] at q
      rw [show decide (optV e.2 = V.non) = e.2.isNone from by cases e.2 <;> simp [optV]]
      exact q
    · rw [show decide ((i : Int) < z) = false from by simpa using h, Bool.false_and] at q
      exact q

end
end PK
namespace PK
open PySem L2
section
variable {P : Program} {w : World} {K : PySem.W.Frag} {mg : Str → Option Value} {base : Heap}
def spReaders (C : Addr) : Sp := fun vs H Q _ => ∃ (p : Addr) (A : LA) (L : List (Int × Addr)) (s : LS), vs = [.ref p] ∧ LogAt C H p A L s ∧ s.tabs.length ≤ 60 ∧ ∀ (l : Addr) (ys : List Int) (H' : Hp), Gr [] H H' → H l = none → H' l = some (.lst (ys.map V.int)) → ys.Perm (s.tabs.map (·.1)) → ys.Pairwise (· ≤ ·) → Q (.ref l) H'
abbrev s_Log_readers : Stmt := inClass (topS 6) 18
abbrev N_Log_readers : List Str := ["self"]
abbrev ps_Log_readers : List Str := ["self"]
theorem sc_Log_readers : FnScope N_Log_readers ps_Log_readers (defScope s_Log_readers) := ⟨rfl, rfl, rfl, by decide +kernel, rfl, by decide +kernel, by decide +kernel⟩
theorem has_logreaders {C : Addr} (D : DfM K C "readers" "Log.readers" s_Log_readers ps_Log_readers) (T : Txt mg) (W : LogC K C) : HasM P w K mg base C 1 "readers" ps_Log_readers (spReaders C) := HasM.mk' D fun f fd F => by
  refine F.ok sc_Log_readers (fun vs H Q E h => ?_) (fun cdv A' outer s' H vs Q E hr h => ?_)
  · obtain ⟨p, A, L, s, rfl, _⟩ := h
    rfl
  · obtain ⟨p, A, L, s, rfl, hl, hn, q⟩ := h
    refine ⟨_, (pss_one (ps_ret (pe_callB (call_sortedDI rfl) (by rfl) T.m_sorted (by decide +kernel) (pa_cons (pe_fld (pv 0) rfl) pa_nil)))), ?_⟩
    walk_at "w"
    refine hl.fnA W rfl ?_
    walk_at "w"
    have kk : L.map (·.1) = s.tabs.map (·.1) := td_keys hl.td
    refine ⟨A.ta, tabsV L, L.map (·.1), rfl, .inl hl.ta, ?_, ?_, fun ys l hp hs nl => ?_⟩
    · unfold tabsV
      rw [List.map_map, List.map_map]
      rfl
    · rw [kk, List.length_map]
      omega
    · exact q l ys _ (Gr.new nl) nl upd_same (by rw [← kk]; exact hp) hs

end
end PK
namespace PK
open PySem L2
section
variable {P : Program} {w : World} {K : PySem.W.Frag} {mg : Str → Option Value} {base : Heap}
def LS.wrongs (s : LS) (r z : Int) : List Str := ((s.tab r).map (·.1)).filter fun k => s.isd k z
def spLogWrong (C : Addr) : Sp := fun vs H Q _ => ∃ (p : Addr) (A : LA) (L : List (Int × Addr)) (s : LS) (r z : Int) (tb : List (Str × Int)), vs = [.ref p, .int r] ∧ LogAt C H p A L s ∧ s.ents.length ≤ 1000 ∧ getA s.seats r = some z ∧ getA s.tabs r = some tb ∧ tb.length ≤ 90000 ∧ (∀ q ∈ tb, ∃ i, s.last q.1 = some i) ∧
  ∀ l H', Gr [] H H' → H l = none → H' l = some (.lst ((s.wrongs r z).map V.str)) → Q (.ref l) H'
abbrev s_Log_wrong : Stmt := inClass (topS 6) 21
abbrev N_Log_wrong : List Str := ["self", "reader", "key", "_"]
abbrev ps_Log_wrong : List Str := ["self", "reader"]
theorem sc_Log_wrong : FnScope N_Log_wrong ps_Log_wrong (defScope s_Log_wrong) := ⟨rfl, rfl, rfl, by decide +kernel, rfl, by decide +kernel, by decide +kernel⟩
theorem has_logwrong {C : Addr} (D : DfM K C "wrong" "Log.wrong" s_Log_wrong ps_Log_wrong) (T : Txt mg) (W : LogC K C) (G_Log_table : HasM P w K mg base C 2 "table" ps_Log_table (spLogTable C)) (G_Log__is_dropped : HasM P w K mg base C 2 "_is_dropped" ps_Log__is_dropped (spIsd C)) : HasM P w K mg base C 3 "wrong" ps_Log_wrong (spLogWrong C) := HasM.mk' D fun f fd F => by
  have CL_Log := W.cl
  refine F.ok sc_Log_wrong (fun vs H Q E h => ?_) (fun cdv A' outer s' H vs Q E hr h => ?_)
  · obtain ⟨p, A, L, s, r, z, tb, rfl, _⟩ := h
    rfl
  · obtain ⟨p, A, L, s, r, z, tb, rfl, hl, hn, hz, ht, tl, hk, q⟩ := h
    refine ⟨_, (pss_one (ps_ret (pe_lc (own := [("key", 2), ("_", 3)]) (g := (gTup K 2 (gCons (gName 2) (gCons (gName 3) gNil))))  rfl sc_Log_wrong.nd (pi_list (pe_methH (pv 0) G_Log_table CL_Log (hr.mono (by decide)) (pa_cons (pv 1) pa_nil))) (blkOk_by (own := [("key", 2), ("_", 3)]) (N := N_Log_wrong) (sc := defScope s_Log_wrong) (by decide +kernel)) (fun _ _ _ _ _ => (pg_tupK (K := K) rfl (pgs_cons (pg_name (i := 2) sc_Log_wrong.nd rfl (Or.inl rfl)) (pgs_cons (pg_name (i := 3) sc_Log_wrong.nd rfl (Or.inl rfl)) pgs_nil)))) (fun _ _ _ _ _ => pts_one (pt_val (pe_methH (pv 0) G_Log__is_dropped CL_Log (hr.mono (by decide)) (pa_cons (pv 2) (pa_cons (pe_dget (hu_of hr) (pe_fldK (K := K) (pv 0) rfl) (pv 1) (fun _ _ => rfl)) pa_nil))))) (fun _ _ _ _ _ => (pv 2))))), ?_⟩
    obtain ⟨dx, ho⟩ := id hl.ob
    have te : s.tab r = ordS tb := by unfold LS.tab; rw [ht]; rfl
    walk_at "w"
    refine WK.w_meth rfl ho lF_none ?_
    walk_at "w"
    refine ⟨p, A, L, s, r, z, tb, rfl, hl, hz, ht, fun l xs H1 g1 nl hl1 t1 => ?_⟩
    have xl : xs.length = tb.length := by rw [t1.length, List.length_map, te, (ordS_perm tb).length_eq]
    refine ⟨l, rfl, ⟨xs, SqL.of hl1⟩, ?_⟩
    refine lc_go (walk_list (K := K) (a := l) (xs := xs)) (fun D j acc H' => Gr [] H1 H' ∧ acc = ((((s.tab r).take j).map (·.1)).filter fun k => s.isd k z).map V.str) (fun D nD => ⟨Gr.new nD, rfl⟩) (fun D j acc H' _ ⟨g, _⟩ => SqL.of (g.k0 hl1)) ?_ ?_
    · rintro D j ac x H2 H3 nD hj hD la ⟨g2, rfl⟩ ⟨rfl, ex⟩
      obtain ⟨y, f1, c, rfl, f2⟩ := pr_get t1 ex
      obtain ⟨e, he, rfl⟩ : ∃ e, (s.tab r)[j]? = some e ∧ y = prV e := by
        rw [List.getElem?_map] at f1
        cases h : (s.tab r)[j]? with
        | none => rw [h] at f1; cases f1
        | some e => rw [h] at f1; exact ⟨e, rfl, (Option.some.inj f1).symm⟩
      have em : e ∈ tb := (ordS_perm tb).mem_iff.mp (by rw [← te]; exact List.mem_of_getElem? he)
      obtain ⟨i, hi⟩ := hk e em
      have fc := g2.tup _ _ f2
      have l3 := hl.k0 (g1.trans g2)
      obtain ⟨dx3, ho3⟩ := id l3.ob
      have ts : (((s.tab r).take (j + 1)).map (·.1)).filter (fun k => s.isd k z) = (((s.tab r).take j).map (·.1)).filter (fun k => s.isd k z) ++ ([e].map (·.1)).filter (fun k => s.isd k z) := by
        rw [take_snoc he, List.map_append, List.filter_append]
      walk_at "w"
      refine ⟨rfl, ?_⟩
      walk_at "w"
      refine WK.w_meth rfl ho3 lF_none ?_
      walk_at "w"
      refine l3.fnS W rfl ?_
      walk_at "w"
      have gz := seats_get l3.se r
      rw [hz] at gz
      refine ⟨A.se, _, rfl, gz, ?_⟩
      walk_at "w"
      refine ⟨p, A, L, s, e.1, z, i, rfl, l3, hn, hi, fun H4 g4 => ?_⟩
      have hD4 := g4.k0 hD
      walk_at "w"
      refine ite2 (fun h => ?_) (fun h => ?_)
      · walk_at "w"
        have gD : Gr [D] H4 _ := Gr.mutL (o := .lst (((((s.tab r).take j).map (·.1)).filter fun k => s.isd k z).map V.str ++ [.str e.1])) hD4 (by simp)
        refine lc_yes hD4 la (by omega) ⟨(g2.trans g4).own gD nD, ?_⟩
        rw [ts, show ([e].map (·.1)).filter (fun k => s.isd k z) = [e.1] from by simp [h], List.map_append]
        rfl
      · refine lc_no hD4 la ⟨g2.trans g4, ?_⟩
        rw [ts, show ([e].map (·.1)).filter (fun k => s.isd k z) = [] from by simp [h], List.append_nil]
    · rintro D acc H2 nD hD la ⟨g2, rfl⟩
      rw [show xs.length = (s.tab r).length from by rw [xl, te, (ordS_perm tb).length_eq], List.take_length] at hD
      exact q D H2 (g1.trans g2) (g1.live _ nD) hD

end
end PK
namespace PK
open PySem L2
section
variable {P : Program} {w : World} {K : PySem.W.Frag} {mg : Str → Option Value} {base : Heap}
/-! what a Log's tables hold: keys of entries; who has a table has a place -/
structure LS.Well (s : LS) : Prop where
  w1 : ∀ r tb, getA s.tabs r = some tb → ∃ z, getA s.seats r = some z
  w2 : ∀ t ∈ s.tabs, ∀ q ∈ t.2, ∃ e ∈ s.ents, e.1 = q.1
  w3 : ∀ c ∈ s.copies, ∀ q ∈ c.2, ∃ e ∈ s.ents, e.1 = q.1
theorem LS.Well.same {s t : LS} (h : s.Well) (h1 : t.seats = s.seats) (h2 : t.tabs = s.tabs) (h3 : t.ents = s.ents) (h4 : t.copies = s.copies) : t.Well :=
  ⟨by rw [h1, h2]; exact h.w1, by rw [h2, h3]; exact h.w2, by rw [h4, h3]; exact h.w3⟩
theorem getA_in {α β : Type} [DecidableEq α] {l : List (α × β)} {a : α} {b : β} (h : getA l a = some b) : (a, b) ∈ l := by
  unfold getA at h
  cases e : l.find? (fun p => decide (p.1 = a)) with
  | none => rw [e] at h; cases h
  | some p =>
    rw [e] at h
    cases h
    have q : p.1 = a := of_decide_eq_true (List.find?_some (p := fun p : α × β => decide (p.1 = a)) e)
    rw [← q]
    exact List.mem_of_find?_eq_some e
theorem tabStep_mem {t : List (Str × Int)} {e : Str × Option Int} {q : Str × Int} (h : q ∈ tabStep t e) : q ∈ t ∨ ∃ v, e.2 = some v ∧ q.1 = e.1 := by
  unfold tabStep at h
  cases ee : e.2 with
  | none =>
    rw [ee] at h
    exact .inl (List.mem_filter.mp h).1
  | some v =>
    rw [ee] at h
    rcases putA_mem h with z | z
    · exact .inr ⟨v, rfl, by rw [z]⟩
    · exact .inl z
theorem tabs_mem {l : List (Str × Option Int)} : ∀ {es : List (Str × Option Int)} {t : List (Str × Int)} {q : Str × Int}, (∀ e ∈ es, ∀ v, e.2 = some v → ∃ x ∈ l, x.1 = e.1) → (∀ q ∈ t, ∃ x ∈ l, x.1 = q.1) → q ∈ es.foldl tabStep t → ∃ x ∈ l, x.1 = q.1
  | [], _, _, _, ht, h => ht _ h
  | e :: es, t, q, he, ht, h => tabs_mem (es := es) (t := tabStep t e) (fun x hx => he x (List.mem_cons_of_mem _ hx)) (fun p hp => by
      rcases tabStep_mem hp with z | ⟨v, z1, z2⟩
      · exact ht p z
      · obtain ⟨x, x1, x2⟩ := he e List.mem_cons_self v z1
        exact ⟨x, x1, by rw [x2, z2]⟩) h
theorem ent_mem {s : LS} {i : Nat} {v : Int} (h : (s.ent i).2 = some v) : ∃ x ∈ s.ents, x.1 = (s.ent i).1 := by
  unfold LS.ent at h ⊢
  cases e : s.ents[i]? with
  | none =>
    rw [List.getD_eq_getElem?_getD, e] at h
    cases h
  | some x =>
    rw [List.getD_eq_getElem?_getD, e]
    exact ⟨x, List.mem_of_getElem? e, rfl⟩
theorem mrg_mem : ∀ {l acc : List (Str × Int)} {q : Str × Int}, q ∈ l.foldl (fun t e => putA t e.1 e.2) acc → q ∈ acc ∨ ∃ e ∈ l, e.1 = q.1
  | [], _, _, h => .inl h
  | e :: l, acc, q, h => by
    rcases mrg_mem (l := l) h with z | ⟨x, x1, x2⟩
    · rcases putA_mem z with y | y
      · exact .inr ⟨e, List.mem_cons_self, by rw [y]⟩
      · exact .inl y
    · exact .inr ⟨x, List.mem_cons_of_mem _ x1, x2⟩
theorem LS.Well.seat {s t : LS} (h : s.Well) {r q : Int} {tb : List (Str × Int)} (h1 : t.seats = putA s.seats r q) (h2 : t.tabs = putA s.tabs r tb) (h3 : t.ents = s.ents) (h4 : t.copies = s.copies) (hb : ∀ q ∈ tb, ∃ e ∈ s.ents, e.1 = q.1) : t.Well := by
  refine ⟨fun i b hi => ?_, fun u hu p hp => ?_, by rw [h4, h3]; exact h.w3⟩
  · rw [h1]
    by_cases e : i = r
    · exact ⟨q, by rw [e, getA_put]⟩
    · rw [h2, getA_off e] at hi
      rw [getA_off e]
      exact h.w1 i b hi
  · rw [h3]
    rw [h2] at hu
    rcases putA_mem hu with z | z
    · rw [z] at hp
      exact hb p hp
    · exact h.w2 u z p hp
theorem LS.Well.does {s : LS} (h : s.Well) (e : Ev) : (s.does e).Well := by
  have add : ∀ (x : Str × Option Int) (t : LS), t.seats = s.seats → t.tabs = s.tabs → t.ents = s.ents ++ [x] → t.copies = s.copies → t.Well := fun x t h1 h2 h3 h4 =>
    ⟨by rw [h1, h2]; exact h.w1, by
      rw [h2, h3]
      intro u hu q hq
      obtain ⟨y, y1, y2⟩ := h.w2 u hu q hq
      exact ⟨y, List.mem_append_left _ y1, y2⟩, by
      rw [h4, h3]
      intro u hu q hq
      obtain ⟨y, y1, y2⟩ := h.w3 u hu q hq
      exact ⟨y, List.mem_append_left _ y1, y2⟩⟩
  cases e with
  | put k v => exact add (k, some v) _ rfl rfl rfl rfl
  | drop k => exact add (k, none) _ rfl rfl rfl rfl
  | join r => exact h.seat (tb := []) rfl rfl rfl rfl (by simp)
  | read r u =>
    refine h.seat (q := u) (tb := s.reads r u (s.told r u)) rfl rfl rfl rfl fun q hq => ?_
    unfold LS.reads at hq
    refine tabs_mem (fun e he v hv => ?_) (fun q hq => ?_) hq
    · obtain ⟨i, _, rfl⟩ := List.mem_map.mp he
      exact ent_mem hv
    · cases g : getA s.tabs r with
      | none => rw [g] at hq; cases hq
      | some tb =>
        rw [g] at hq
        exact h.w2 _ (getA_in g) q hq
  | save r =>
    refine ⟨h.w1, h.w2, fun c hc q hq => ?_⟩
    rcases List.mem_append.mp (show c ∈ s.copies ++ [((getA s.seats r).getD 0, s.tab r)] from hc) with z | z
    · exact h.w3 c z q hq
    · rw [List.mem_singleton.mp z] at hq
      have hq : q ∈ ordS ((getA s.tabs r).getD []) := hq
      have hq := (ordS_perm _).mem_iff.mp hq
      cases g : getA s.tabs r with
      | none => rw [g] at hq; cases hq
      | some tb =>
        rw [g] at hq
        exact h.w2 _ (getA_in g) q hq
  | load r c =>
    refine h.seat rfl rfl rfl rfl fun q hq => ?_
    rcases mrg_mem (show q ∈ ((s.copies.getD c.toNat (0, [])).2).foldl (fun t e => putA t e.1 e.2) [] from hq) with z | ⟨e, e1, e2⟩
    · cases z
    · cases g : s.copies[c.toNat]? with
      | none => rw [List.getD_eq_getElem?_getD, g] at e1; cases e1
      | some cc =>
        rw [List.getD_eq_getElem?_getD, g] at e1
        obtain ⟨x, x1, x2⟩ := h.w3 cc (List.mem_of_getElem? g) e e1
        exact ⟨x, x1, by rw [x2, e2]⟩
  | wait => exact h.same rfl rfl rfl rfl
theorem LS.Well.runs : ∀ {es : List Ev} {s : LS}, s.Well → (s.runs es).Well
  | [], _, h => h
  | e :: es, _, h => LS.Well.runs (es := es) (h.does e)
theorem LS.Well.swps {es : List Ev} : ∀ {bs : List (Int × Int)} {s : LS}, s.Well → (s.swps es bs).Well
  | [], _, h => h
  | b :: bs, s, h => by
    have k : (LS.swp es s b).Well := (h.runs (es := ((es.drop s.time.toNat).take (b.1.toNat - s.time.toNat)))).same rfl rfl rfl rfl
    exact LS.Well.swps (bs := bs) k
theorem LS.Well.fin {es : List Ev} {bs : List (Int × Int)} {h : Int} {gs : List (Str × Int)} : (((LS.new h gs).swps es bs).to es es.length).Well :=
  (LS.Well.swps (es := es) (bs := bs) (s := LS.new h gs) ⟨fun r tb e => (by cases e), (by intro _ z; cases z), (by intro _ z; cases z)⟩).runs
theorem last_some {l : List (Str × Option Int)} {x : Str × Option Int} : ∀ {n : Nat}, x ∈ l.take n → ∃ i, lastN l x.1 n = some i
  | 0, h => by simp at h
  | n + 1, h => by
    show ∃ i, (if (l.getD n ("", none)).1 = x.1 then some n else lastN l x.1 n) = some i
    by_cases e : (l.getD n ("", none)).1 = x.1
    · exact ⟨n, if_pos e⟩
    · rw [if_neg e]
      refine last_some ?_
      by_cases hn : n < l.length
      · have en : l[n]? = some l[n] := List.getElem?_eq_getElem hn
        rw [take_snoc en] at h
        rcases List.mem_append.mp h with z | z
        · exact z
        · exfalso
          rw [List.mem_singleton] at z
          exact e (by rw [getD_of en, z])
      · rw [List.take_of_length_le (by omega)] at h ⊢
        exact h
theorem LS.Well.lasts {s : LS} (h : s.Well) {r : Int} {tb : List (Str × Int)} (g : getA s.tabs r = some tb) : ∀ q ∈ tb, ∃ i, s.last q.1 = some i := fun q hq => by
  obtain ⟨e, e1, e2⟩ := h.w2 _ (getA_in g) q hq
  rw [← e2]
  exact last_some (by rw [List.take_length]; exact e1)

end
end PK
namespace PK
open PySem L2
section
variable {P : Program} {w : World} {K : PySem.W.Frag} {mg : Str → Option Value} {base : Heap}
def spLogSeat (C : Addr) : Sp := fun vs H Q _ => ∃ (p : Addr) (A : LA) (L : List (Int × Addr)) (s : LS) (r z : Int), vs = [.ref p, .int r] ∧ LogAt C H p A L s ∧ getA s.seats r = some z ∧ Q (.int z) H
abbrev s_Log_seat : Stmt := inClass (topS 6) 16
abbrev N_Log_seat : List Str := ["self", "reader"]
abbrev ps_Log_seat : List Str := ["self", "reader"]
theorem sc_Log_seat : FnScope N_Log_seat ps_Log_seat (defScope s_Log_seat) := ⟨rfl, rfl, rfl, by decide +kernel, rfl, by decide +kernel, by decide +kernel⟩
theorem has_logseat {C : Addr} (D : DfM K C "seat" "Log.seat" s_Log_seat ps_Log_seat) (T : Txt mg) (W : LogC K C) (G_Log__check_joined : HasM P w K mg base C 1 "_check_joined" ps_Log__check_joined (spCheck C)) : HasM P w K mg base C 2 "seat" ps_Log_seat (spLogSeat C) := HasM.mk' D fun f fd F => by
  have CL_Log := W.cl
  refine F.ok sc_Log_seat (fun vs H Q E h => ?_) (fun cdv A' outer s' H vs Q E hr h => ?_)
  · obtain ⟨p, A, L, s, r, z, rfl, _⟩ := h
    rfl
  · obtain ⟨p, A, L, s, r, z, rfl, hl, hz, q⟩ := h
    refine ⟨_, (pss_cons (ps_expr (pe_methH (pv 0) G_Log__check_joined CL_Log (hr.mono (by decide)) (pa_cons (pv 1) pa_nil)))
(pss_one (ps_ret (pe_dget (hu_of hr) (pe_fld (pv 0) rfl) (pv 1) (fun _ _ => rfl))))), ?_⟩
    obtain ⟨dx, ho⟩ := id hl.ob
    walk_at "w"
    refine WK.w_meth rfl ho lF_none ?_
    walk_at "w"
    refine ⟨p, A, L, s, r, z, rfl, hl, hz, ?_⟩
    walk_at "w"
    refine hl.fnS W rfl ?_
    walk_at "w"
    have gz := seats_get hl.se r
    rw [hz] at gz
    exact ⟨A.se, _, rfl, gz, q⟩

end
end PK
namespace PK
open PySem L2
section
variable {P : Program} {w : World} {K : PySem.W.Frag} {mg : Str → Option Value} {base : Heap}
/-- a def that is called by place with less than all its parameters: dvs are the rest -/
structure HasB (P : Program) (w : World) (K : PySem.W.Frag) (mg : Str → Option Value) (base : Heap) (k : Nat) (x : Str) (ps : List Str) (dvs : List V) (sp : Sp) : Prop where
  ex : ∃ f fd ds, FnOk P w K mg base CX0 k f fd ps sp ∧ mg x = some (.ref f) ∧ PySem.W.keepIn K (.ref f) = true ∧ Binds K fd ps ds ∧ Vals dvs ds
/-- .. by names alone -/
structure HasK (P : Program) (w : World) (K : PySem.W.Frag) (mg : Str → Option Value) (base : Heap) (k : Nat) (x : Str) (ps ks : List Str) (gV : List V → List V → List V) (sp : Sp) : Prop where
  ex : ∃ f fd g, FnOk P w K mg base CX0 k f fd ps sp ∧ mg x = some (.ref f) ∧ PySem.W.keepIn K (.ref f) = true ∧ KBn K fd ps 0 ks g gV
/-- an own class that is made by names alone -/
structure HasIK (P : Program) (w : World) (K : PySem.W.Frag) (mg : Str → Option Value) (base : Heap) (C : Addr) (k : Nat) (x : Str) (ps ks : List Str) (gV : List V → List V → List V) (sp : Sp) : Prop where
  ex : ∃ f fd g, FnOk P w K mg base CX0 k f fd ps sp ∧ Mk K C f ∧ mg x = some (.ref C) ∧ KBn K fd ps 1 ks g gV
section
variable {X : Cx} {k : Nat} {x : Str} {ps ks : List Str} {dvs : List V} {sp : Sp} {gV : List V → List V → List V} {e : Expr} {es : List Expr} {kws : List Keyword} {pos p : Pos} {t : TA} {C : Addr}
theorem pe_callHB (D : HasB X.prog X.w X.K X.mg X.base k x ps dvs sp) (hr : Room k X.A) (hg : Gl X x) (ha : PA X (e :: es) t) (hdb : (x == ("__debug__" : Str)) = false := by decide)
    (he : starEach (e :: es) X.env = (false, eval e X.env) :: starEach es X.env := by rfl) (hpl : (backTo pos (starEach es X.env)).any (·.1) = false := by rfl) :
    PE X (.Call (.Name x p) (e :: es) [] pos) (tCall sp dvs E0 t) := by
  obtain ⟨f, fd, ds, F, m, kp, b, r⟩ := D.ex
  exact pe_call F hr hg m kp b r pass0 ha hdb he hpl
theorem pe_callHK (D : HasK X.prog X.w X.K X.mg X.base k x ps ks gV sp) (room : Room k X.A) (hg : Gl X x) (kw : L2.PK X kws t) (named : (backToKw pos (keywordEach kws X.env)).all (·.1.isSome) = true := by rfl)
    (names : (backToKw pos (keywordEach kws X.env)).filterMap (·.1) = ks := by rfl) (hdb : (x == ("__debug__" : Str)) = false := by decide)
    (plain : ((backTo pos (starEach [] X.env)).any (·.1) || (backToKw pos (keywordEach kws X.env)).any (·.1.isNone)) = false := by rfl) : PE X (.Call (.Name x p) [] kws pos) (tCallN 0 ks.length sp gV E0 tNil t) := by
  obtain ⟨f, fd, g, F, m, kp, kb⟩ := D.ex
  refine ⟨fun pins s σ H Q I want => wpAny_Call_Name_kw (ld_glob I hg m ?_ hdb)⟩
  refine PySem.W.callWith_KW0 (h₀ := X.base) I.ok.mod.kin kp named ?_ plain
  rw [names]
  exact thn (kw.run pos pins s σ H _ I want) fun ws s1 ⟨zs, H1, I1, rel, l1, l2, go⟩ => ⟨I1.kIn, run_fnN (us := []) (vs := []) F room kb pass0 I1 .nil rel l1 l2 go⟩
theorem pe_makeHK (D : HasIK X.prog X.w X.K X.mg X.base C k x ps ks gV sp) (hr : Room (k + 1) X.A) (hg : Gl X x) (kw : L2.PK X kws t) (hall : (backToKw pos (keywordEach kws X.env)).all (·.1.isSome) = true := by rfl)
    (hks : (backToKw pos (keywordEach kws X.env)).filterMap (·.1) = ks := by rfl) (hdb : (x == ("__debug__" : Str)) = false := by decide)
    (hpl : ((backTo pos (starEach [] X.env)).any (·.1) || (backToKw pos (keywordEach kws X.env)).any (·.1.isNone)) = false := by rfl) :
    PE X (.Call (.Name x p) [] kws pos) (tMakeK C 0 ks.length sp gV E0 tNil t) := by
  obtain ⟨f, fd, g, F, M, m, kb⟩ := D.ex
  exact pe_makeK0 M F hr hg m kb pass0 kw hall hks hdb hpl
end
theorem WK.w_callB {sp : Sp} {dvs : List V} {t : TA} {σ : L2.St} {H : Hp} {Q : VK} (k : t σ H fun vs H1 => sp (vs ++ dvs) H1 Q E0) : tCall sp dvs E0 t σ H Q := k
theorem WK.w_callK {n m : Nat} {sp : Sp} {gV : List V → List V → List V} {t tk : TA} {σ : L2.St} {H : Hp} {Q : VK} (k : t σ H fun vs H1 => tk σ H1 fun zs H2 => vs.length = n ∧ zs.length = m ∧ sp (gV vs zs) H2 Q E0) : tCallN n m sp gV E0 t tk σ H Q := k
theorem WK.w_mkK {C : Addr} {n m : Nat} {sp : Sp} {gV : List V → List V → List V} {t tk : TA} {σ : L2.St} {H : Hp} {Q : VK} (k : t σ H fun vs H1 => tk σ H1 fun zs H2 => vs.length = n ∧ zs.length = m ∧ ∀ x dx, H2 x = none → H2 dx = none → dx ≠ x →
    sp (gV (.ref x :: vs) zs) (upd (upd H2 dx (.own x)) x (.ins C dx [])) (fun v H3 => v = .non ∧ Q (.ref x) H3) E0) : tMakeK C n m sp gV E0 t tk σ H Q := k
theorem WK.w_methE {C : Addr} {m : Str} {sp : Sp} {dvs : List V} {E : XK} {ta : TE} {t : TA} {σ : L2.St} {H : Hp} {Q : VK} (k : ta σ H fun x H1 => ∃ a dx fs, x = .ref a ∧ H1 a = some (.ins C dx fs) ∧ fs.lookup m = none ∧ t σ H1 fun vs H2 => sp (x :: (vs ++ dvs)) H2 Q E) : tMeth C m sp dvs E ta t σ H Q := k

end
end PK
namespace PK
open PySem L2
section
variable {P : Program} {w : World} {K : PySem.W.Frag} {mg : Str → Option Value} {base : Heap}
/-! comprehensions of two clauses; what a timetable's totals are -/
section
variable {J J1 : It} {n n1 : Nat} {G G1 : Hp → Prop} {Y Y1 : Nat → Hp → V → Hp → Prop} {wi1 : TI} {g g1 : TG} {tt tt1 : TT} {te : TE} {vs vs1 : List Nat} {σ σ2 : L2.St} {H H1 : Hp} {D : Addr} {Q : VK} {Nx : Hp → Prop}
theorem lc2_in (w : Walk J1 n1 G1 Y1) (P1 : Nat → Hp → Prop) (h0 : P1 0 H) (hG : ∀ i H, i ≤ n1 → P1 i H → G1 H)
    (hs : ∀ j x H H2, j < n1 → P1 j H → Y1 j H x H2 → g1 x (wipe σ2 vs1) H2 fun σ3 H5 => wipe σ3 vs1 = wipe σ2 vs1 ∧ tt1 σ3 H5 fun b H6 =>
      if b = true then te σ3 H6 fun y H7 => ∃ acc, H7 D = some (.lst acc) ∧ acc.length < sizeLine ∧ P1 (j + 1) (upd H7 D (.lst (acc ++ [y]))) else P1 (j + 1) H6) (hd : ∀ H, P1 n1 H → Nx H) :
    ∃ W1 : Nat → Nat → Hp → Prop, (∃ m, W1 0 m H) ∧ ∀ j k H, W1 j k H →
      (J1.stop j H ∧ Nx H) ∨ (J1.go j H ∧ ∃ Nx1 : Hp → Prop, (∀ H', Nx1 H' → ∃ k', k' < k ∧ W1 (j + 1) k' H') ∧ ∀ x H', J1.yld j H x H' → g1 x (wipe σ2 vs1) H' fun σ3 H5 => wipe σ3 vs1 = wipe σ2 vs1 ∧ tt1 σ3 H5 fun b H6 =>
        if b = true then te σ3 H6 fun y H7 => ∃ acc, H7 D = some (.lst acc) ∧ acc.length < sizeLine ∧ Nx1 (upd H7 D (.lst (acc ++ [y]))) else Nx1 H6) := by
  refine ⟨fun i m H => m = n1 - i ∧ i ≤ n1 ∧ P1 i H, ⟨n1, by simp, Nat.zero_le _, h0⟩, ?_⟩
  rintro i m H ⟨rfl, hi, p⟩
  have q := hG i H hi p
  by_cases hlt : i < n1
  · exact .inr ⟨w.goes i H hlt q, P1 (i + 1), fun H' p' => ⟨n1 - (i + 1), by omega, rfl, hlt, p'⟩, fun x H' y => hs i x H H' hlt p (w.yields i H x H' hlt q y)⟩
  · have e : i = n1 := by omega
    subst e
    exact .inl ⟨w.stops H q, hd H p⟩
theorem lc2_out (w : Walk J n G Y) (P1 : Nat → Hp → Prop) (h0 : P1 0 (upd H1 D (.lst []))) (hG : ∀ i H, i ≤ n → P1 i H → G H)
    (hs : ∀ i x H H2, i < n → P1 i H → Y i H x H2 → g x (wipe σ vs) H2 fun σ2 H2 => wipe σ2 vs = wipe σ vs ∧ tt σ2 H2 fun b H3 =>
      if b = true then wi1 σ2 H3 fun J1 H4 => ∃ W1 : Nat → Nat → Hp → Prop, (∃ m, W1 0 m H4) ∧ ∀ j k H, W1 j k H →
        (J1.stop j H ∧ P1 (i + 1) H) ∨ (J1.go j H ∧ ∃ Nx1 : Hp → Prop, (∀ H', Nx1 H' → ∃ k', k' < k ∧ W1 (j + 1) k' H') ∧ ∀ x H', J1.yld j H x H' → g1 x (wipe σ2 vs1) H' fun σ3 H5 => wipe σ3 vs1 = wipe σ2 vs1 ∧ tt1 σ3 H5 fun b H6 =>
          if b = true then te σ3 H6 fun y H7 => ∃ acc, H7 D = some (.lst acc) ∧ acc.length < sizeLine ∧ Nx1 (upd H7 D (.lst (acc ++ [y]))) else Nx1 H6)
      else P1 (i + 1) H3) (hd : ∀ H, P1 n H → Q (.ref D) H) :
    ∃ W : Nat → Nat → Hp → Prop, (∃ m, W 0 m (upd H1 D (.lst []))) ∧ ∀ i m H, W i m H →
  (J.stop i H ∧ Q (.ref D) H) ∨ (J.go i H ∧ ∃ Nx : Hp → Prop, (∀ H', Nx H' → ∃ m', m' < m ∧ W (i + 1) m' H') ∧ ∀ x H', J.yld i H x H' → g x (wipe σ vs) H' fun σ2 H2 => wipe σ2 vs = wipe σ vs ∧ tt σ2 H2 fun b H3 =>
    if b = true then wi1 σ2 H3 fun J1 H4 => ∃ W1 : Nat → Nat → Hp → Prop, (∃ m, W1 0 m H4) ∧ ∀ j k H, W1 j k H →
      (J1.stop j H ∧ Nx H) ∨ (J1.go j H ∧ ∃ Nx1 : Hp → Prop, (∀ H', Nx1 H' → ∃ k', k' < k ∧ W1 (j + 1) k' H') ∧ ∀ x H', J1.yld j H x H' → g1 x (wipe σ2 vs1) H' fun σ3 H5 => wipe σ3 vs1 = wipe σ2 vs1 ∧ tt1 σ3 H5 fun b H6 =>
        if b = true then te σ3 H6 fun y H7 => ∃ acc, H7 D = some (.lst acc) ∧ acc.length < sizeLine ∧ Nx1 (upd H7 D (.lst (acc ++ [y]))) else Nx1 H6)
    else Nx H3) := by
  refine ⟨fun i m H => m = n - i ∧ i ≤ n ∧ P1 i H, ⟨n, by simp, Nat.zero_le _, h0⟩, ?_⟩
  rintro i m H ⟨rfl, hi, p⟩
  have q := hG i H hi p
  by_cases hlt : i < n
  · exact .inr ⟨w.goes i H hlt q, P1 (i + 1), fun H' p' => ⟨n - (i + 1), by omega, rfl, hlt, p'⟩, fun x H' y => hs i x H H' hlt p (w.yields i H x H' hlt q y)⟩
  · have e : i = n := by omega
    subst e
    exact .inl ⟨w.stops H q, hd H p⟩
end
theorem atI_last {α : Type} {xs : List α} {x : α} : atI (xs ++ [x]) (-1) = some x := by
  unfold atI ixN
  rw [if_neg (by decide), if_pos (by rw [List.length_append, List.length_singleton]; omega)]
  show (xs ++ [x])[(-1 + ((xs ++ [x]).length : Int)).toNat]? = some x
  rw [show (-1 + ((xs ++ [x]).length : Int)).toNat = xs.length from by rw [List.length_append, List.length_singleton]; omega]
  simp
/-- how many entries there are ahead of each time -/
def manyN (es : List Ev) (i : Nat) : Int := (WS.nil.run (es.take i)).many
def manyL (es : List Ev) (n : Nat) : List V := (List.range n).map fun i => V.int (manyN es i)
theorem manyL_succ (es : List Ev) (n : Nat) : manyL es (n + 1) = manyL es n ++ [.int (manyN es n)] := by
  unfold manyL
  rw [List.range_succ, List.map_append]
  rfl
theorem pi_listK {X : Cx} {tg l : Expr} {tl : TE} (hl : PE X l tl) (hK : X.K = K := by rfl) : PI X tg l (iList K tl) := by subst hK; exact pi_list hl

end
end PK
namespace PK
open PySem L2
section
variable {P : Program} {w : World} {K : PySem.W.Frag} {mg : Str → Option Value} {base : Heap}
/-- a Log that came to the end is well -/
theorem ok_swps {es : List Ev} {bs : List (Int × Int)} {h : Int} {gs : List (Str × Int)} (g0 : ∀ g ∈ gs, 0 ≤ g.2) (rn : (LS.new h gs).Runs es bs) : ∀ i, i ≤ bs.length → ((LS.new h gs).swps es (bs.take i)).Ok ((LS.new h gs).swps es (bs.take i)).time.toNat ∧ 0 ≤ ((LS.new h gs).swps es (bs.take i)).time ∧ ((LS.new h gs).swps es (bs.take i)).time ≤ es.length
  | 0, _ => ⟨LS.Ok.new g0, Int.le_refl _, by show (0 : Int) ≤ _; omega⟩
  | i + 1, hi => by
    obtain ⟨o3, t3, u3⟩ := ok_swps g0 rn i (by omega)
    have hb : bs[i]? = some (bs[i]'(by omega)) := List.getElem?_eq_getElem _
    generalize bs[i]'(by omega) = b at *
    obtain ⟨r1, r2, r3, r4, r5⟩ := rn.at_ i b hb
    rw [swps_snoc _ _ _ hb]
    generalize (LS.new h gs).swps es (bs.take i) = s at *
    obtain ⟨bt, bp⟩ := b
    dsimp only at r1 r2 r3 r4 r5
    obtain ⟨j, rfl⟩ : ∃ j : Nat, bt = (j : Int) := ⟨bt.toNat, by omega⟩
    have o4 := o3.to r1 (by omega) r3
    have t4 := to_time t3 r1 (show j ≤ es.length by omega)
    refine ⟨?_, ?_, ?_⟩
    · show ((s.to es j).sweep bp).Ok ((s.to es j).sweep bp).time.toNat
      rw [sweep_time, t4]
      exact o4.swept' bp
    · show 0 ≤ ((s.to es j).sweep bp).time
      rw [sweep_time, t4]
      omega
    · show ((s.to es j).sweep bp).time ≤ _
      rw [sweep_time, t4]
      omega
theorem ok_end {es : List Ev} {bs : List (Int × Int)} {h : Int} {gs : List (Str × Int)} (g0 : ∀ g ∈ gs, 0 ≤ g.2) (rn : (LS.new h gs).Runs es bs) : (((LS.new h gs).swps es bs).to es es.length).Ok es.length := by
  have z := ok_swps g0 rn bs.length (Nat.le_refl _)
  rw [List.take_length] at z
  exact z.1.to z.2.2 (Nat.le_refl _) rn.end_

end
end PK
namespace PK
open PySem L2
section
variable {P : Program} {w : World} {K : PySem.W.Frag} {mg : Str → Option Value} {base : Heap}
def insI (x : Int) : List Int → List Int
  | [] => [x]
  | y :: l => if x ≤ y then x :: y :: l else y :: insI x l
def srtI (l : List Int) : List Int := l.foldr insI []
theorem insI_perm (x : Int) : ∀ l : List Int, (insI x l).Perm (x :: l)
  | [] => .refl _
  | y :: l => by
    unfold insI
    split
    · exact .refl _
    · exact ((insI_perm x l).cons y).trans (List.Perm.swap x y l)
theorem srtI_perm : ∀ l : List Int, (srtI l).Perm l
  | [] => .refl _
  | x :: l => (insI_perm x (srtI l)).trans ((srtI_perm l).cons x)
theorem insI_srt (x : Int) : ∀ {l : List Int}, l.Pairwise (· ≤ ·) → (insI x l).Pairwise (· ≤ ·)
  | [], _ => List.pairwise_singleton _ _
  | y :: l, h => by
    unfold insI
    obtain ⟨h1, h2⟩ := List.pairwise_cons.mp h
    split
    · rename_i z
      exact List.pairwise_cons.mpr ⟨fun a ha => by
        rcases List.mem_cons.mp ha with e | e
        · rw [e]; exact z
        · exact Int.le_trans z (h1 a e), h⟩
    · rename_i z
      refine List.pairwise_cons.mpr ⟨fun a ha => ?_, insI_srt x h2⟩
      rcases List.mem_cons.mp ((insI_perm x l).mem_iff.mp ha) with e | e
      · rw [e]; omega
      · exact h1 a e
theorem srtI_srt : ∀ l : List Int, (srtI l).Pairwise (· ≤ ·)
  | [] => .nil
  | x :: l => insI_srt x (srtI_srt l)
theorem srtI_one {a l : List Int} (p : a.Perm l) (s : a.Pairwise (· ≤ ·)) : a = srtI l :=
  List.Perm.eq_of_pairwise (le := fun x y => x ≤ y) (fun x y _ _ h1 h2 => Int.le_antisymm h1 h2) s (srtI_srt l) (p.trans (srtI_perm l).symm)
/-- who is wrong, and where -/
def LS.at1 (s : LS) (r : Int) : List (Int × Str) := (s.wrongs r ((getA s.seats r).getD 0)).map fun k => (r, k)
def LS.wps (s : LS) : List (Int × Str) := (srtI (s.tabs.map (·.1))).flatMap s.at1
abbrev wpV (x : Int × Str) : List V := [.int x.1, .str x.2]

end
end PK
namespace PK
open PySem L2
section
variable {P : Program} {w : World} {K : PySem.W.Frag} {mg : Str → Option Value} {base : Heap}
abbrev s_law_take : Stmt := topS 11
abbrev N_law_take : List Str := ["_law_box_here", "_law_below", "_law_once", "_law_odd", "_law_found"]
abbrev ps_law_take : List Str := ["_law_box_here", "_law_below"]
theorem sc_law_take : FnScope N_law_take ps_law_take (defScope s_law_take) := ⟨rfl, rfl, rfl, by decide +kernel, rfl, by decide +kernel, by decide +kernel⟩
def spTake : Sp := fun vs H Q _ => ∃ (b : Addr) (m : Int) (n : Nat), vs = [.ref b, .int m] ∧ Bx H b (n + 1) ∧ 0 < m ∧ m ≤ 1000000 ∧
  ∀ (r : Int) (H' : Hp), 0 ≤ r → r < m → Gr [b] H H' → Bx H' b n → Q (.int r) H'
theorem has_take (D : Df K mg "_law_take" s_law_take ps_law_take) (T : Txt mg) : Has P w K mg base 1 "_law_take" ps_law_take spTake := Has.mk' D fun f fd F => by
  refine F.ok sc_law_take (fun vs H Q E h => ?_) (fun cdv A outer s H vs Q E hr h => ?_)
  · obtain ⟨b, m, n, rfl, _⟩ := h
    rfl
  · obtain ⟨b, m, n, rfl, ⟨x, sd, c, hb, x0, s0, s1, c0, c1⟩, m0, m1, q⟩ := h
    refine ⟨_, (pss_cons (ps_if (pt_cmpR op_gt (pe_ix (ix_listK (K := K)) (pv 0) pe_int (fun _ _ => rfl)) pe_int (nomark _))
  (pss_cons (ps_set (i := 4) sc_law_take.nd rfl (Or.inl rfl) (pe_op op_mod (pe_callTy call_int1 (by rfl) T.m_int (by decide +kernel) (pa_cons (pe_ix (ix_listK (K := K)) (pv 0) pe_int (fun _ _ => rfl)) pa_nil)) (pv 1)))
  (pss_cons (ps_asg (pe_op op_fdivW (pe_ix (ix_listK (K := K)) (pv 0) pe_int (fun _ _ => rfl)) (pv 1)) (pg_sub (pv 0) pe_int set_list))
  (pss_one (ps_ret (pv 4)))))
  pss_nil)
(pss_cons (ps_asg (pe_op op_add (pe_ix (ix_listK (K := K)) (pv 0) pe_int (fun _ _ => rfl)) pe_int) (pg_sub (pv 0) pe_int set_list))
(pss_cons (ps_set (i := 2) sc_law_take.nd rfl (Or.inl rfl) (pe_op op_mod (pe_callTy call_int1 (by rfl) T.m_int (by decide +kernel) (pa_cons (pe_op op_pow (pe_op op_add (pe_ix (ix_listK (K := K)) (pv 0) pe_int (fun _ _ => rfl)) (pe_op op_mul pe_int (pe_ix (ix_listK (K := K)) (pv 0) pe_int (fun _ _ => rfl)))) pe_int) pa_nil)) pe_int))
(pss_cons (ps_set (i := 3) sc_law_take.nd rfl (Or.inl rfl) (pe_op op_add (pe_op op_mod (pe_callTy call_int1 (by rfl) T.m_int (by decide +kernel) (pa_cons (pv 2) pa_nil)) pe_int) pe_int))
(pss_one (ps_ret (pe_op op_mod (pe_callTy call_int1 (by rfl) T.m_int (by decide +kernel) (pa_cons (pe_op op_fdiv (pe_op op_mod (pe_callTy call_int1 (by rfl) T.m_int (by decide +kernel) (pa_cons (pe_op op_add (pe_op op_mulW (pv 2) (pv 3)) (pe_op op_mul (pe_ix (ix_listK (K := K)) (pv 0) pe_int (fun _ _ => rfl)) pe_int)) pa_nil)) pe_int) pe_int) pa_nil)) (pv 1)))))))), ?_⟩
    walk_at "w"
    walk_at "i"
    refine ite2 (fun hx => ?_) (fun hx => ?_)
    · walk_at "w"
      refine WK.w_I (wide_div (b := 64) m0 (by omega) (by decide) (by decide)) ?_
      walk_at "w"
      exact q _ _ (Int.emod_nonneg _ (by omega)) (Int.emod_lt_of_pos _ m0) (Gr.mutL hb (by simp)) ⟨x / m, sd, c, upd_same, Int.ediv_nonneg x0 (by omega), s0, s1, c0, by omega⟩
    · walk_at "w"
      refine WK.w_I (wide_mul (a := 32) (b := 32) (by omega) (by omega) (by decide) (by decide) (by decide)) ?_
      walk_at "w"
      exact q _ _ (Int.emod_nonneg _ (by omega)) (Int.emod_lt_of_pos _ m0) (Gr.mutL hb (by simp)) ⟨x, sd, c + 1, upd_same, x0, s0, s1, by omega, by omega⟩
theorem use_take {H : Hp} {Q : VK} {E : XK} {b : Addr} {m : Int} {n : Nat} (hb : Bx H b (n + 1)) (h0 : 0 < m) (h1 : m ≤ 1000000) (k : ∀ (r : Int) (H' : Hp), 0 ≤ r → r < m → Gr [b] H H' → Bx H' b n → Q (.int r) H') : spTake [.ref b, .int m] H Q E := ⟨b, m, n, rfl, hb, h0, h1, k⟩

end
end PK
namespace PK
open PySem L2
section
variable {P : Program} {w : World} {K : PySem.W.Frag} {mg : Str → Option Value} {base : Heap}
abbrev s_law_box : Stmt := topS 10
abbrev N_law_box : List Str := ["_law_script", "_law_k", "_law_cell", "_law_seed"]
abbrev ps_law_box : List Str := ["_law_script", "_law_k"]
theorem sc_law_box : FnScope N_law_box ps_law_box (defScope s_law_box) := ⟨rfl, rfl, rfl, by decide +kernel, rfl, by decide +kernel, by decide +kernel⟩
def spBox (K : PySem.W.Frag) : Sp := fun vs H Q _ => ∃ (a : Addr) (ns : List Int) (i : Nat), vs = [.ref a, .int i] ∧ SqL K H a (ns.map V.int) ∧ ns.length ≤ 63 ∧ i ≤ 3 ∧
  ∀ (b : Addr) (H' : Hp), H b = none → Gr [] H H' → Bx H' b 900000 → Q (.ref b) H'
theorem has_box (D : Df K mg "_law_box" s_law_box ps_law_box) (T : Txt mg) : Has P w K mg base 1 "_law_box" ps_law_box (spBox K) := Has.mk' D fun f fd F => by
  refine F.ok sc_law_box (fun vs H Q E h => ?_) (fun cdv A outer s H vs Q E hr h => ?_)
  · obtain ⟨b, m, n, rfl, _⟩ := h
    rfl
  · obtain ⟨a, ns, i, rfl, hs, hl, hi, q⟩ := h
    refine ⟨_, (pss_cons (ps_set (i := 2) sc_law_box.nd rfl (Or.inl rfl) (pe_ifExp (pt_cmpR op_lt (pv 1) (pe_callB (call_len_seqK (K := K)) (by rfl) T.m_len (by decide +kernel) (pa_cons (pv 0) pa_nil)) (nomark _)) (pe_ix (ix_listK (K := K)) (pv 0) (pv 1) (fun _ _ => rfl)) pe_int))
(pss_cons (ps_set (i := 3) sc_law_box.nd rfl (Or.inl rfl) (pe_op op_mod (pe_callTy call_int1 (by rfl) T.m_int (by decide +kernel) (pa_cons (pe_op op_mul (pe_op op_add (pe_op op_add (pe_op op_mod (pe_callTy call_int1 (by rfl) T.m_int (by decide +kernel) (pa_cons (pv 2) pa_nil)) pe_int) (pe_op op_mul pe_int (pv 1))) pe_int) pe_int) pa_nil)) pe_int))
(pss_one (ps_ret (pe_lst (pa_cons (pe_op op_mul (pe_callB call_abs (by rfl) T.m_abs (by decide +kernel) (pa_cons (pv 2) pa_nil)) (pe_callTy call_int1 (by rfl) T.m_int (by decide +kernel) (pa_cons (pe_cmpR op_ge (pe_callB call_abs (by rfl) T.m_abs (by decide +kernel) (pa_cons (pv 2) pa_nil)) (pe_op op_pow pe_int pe_int) (nomark _)) pa_nil))) (pa_cons (pv 3) (pa_cons pe_int pa_nil)))))))), ?_⟩
    walk_at "w"
    refine WK.w_gen (fun v H' => H' = H ∧ ∃ z, v = V.int z) ?_ (fun Q0 q0 => ?_)
    · rintro _ _ ⟨rfl, z, rfl⟩
      walk_at "w"
      generalize hx : (if z < 0 then -z else z) = x
      generalize hk : (if decide ((10 : Int) ^ Int.toNat 18 ≤ x) = true then (1 : Int) else 0) = y
      have x0 : 0 ≤ x := by rw [← hx]; split <;> omega
      have y0 : 0 ≤ y ∧ y ≤ 1 := by rw [← hk]; split <;> omega
      have hm : CMul x y := .inr ⟨by omega, by omega⟩
      walk_at "w"
      refine ⟨by show 3 ≤ sizeLine; decide, fun b nb => q b _ nb (Gr.new nb) ⟨x * y, _, 0, upd_same, Int.mul_nonneg x0 y0.1, Int.emod_nonneg _ (by omega), Int.emod_lt_of_pos _ (by omega), by omega, by omega⟩⟩
    walk_at "i"
    refine ⟨a, _, rfl, .inl hs, ?_⟩
    walk_at "w"
    refine WK.w_2 (fun h => ?_) (fun h => ?_)
    · walk_at "w"
      rw [List.length_map] at h
      have e : ns[i]? = some ns[i] := List.getElem?_eq_getElem (by omega)
      exact ⟨a, _, i, .int ns[i], rfl, rfl, hs, atI_nat (by rw [List.getElem?_map, e]; rfl), q0 _ _ ⟨rfl, _, rfl⟩⟩
    · walk_at "w"
      exact q0 _ _ ⟨rfl, _, rfl⟩

end
end PK
namespace PK
open PySem L2
section
variable {P : Program} {w : World} {K : PySem.W.Frag} {mg : Str → Option Value} {base : Heap}
abbrev s_law_of : Stmt := topS 12
abbrev N_law_of : List Str := ["_law_box_here", "_law_some"]
abbrev ps_law_of : List Str := ["_law_box_here", "_law_some"]
theorem sc_law_of : FnScope N_law_of ps_law_of (defScope s_law_of) := ⟨rfl, rfl, rfl, by decide +kernel, rfl, by decide +kernel, by decide +kernel⟩
def spOf : Sp := fun vs H Q _ => ∃ (b l : Addr) (xs : List V) (n : Nat), vs = [.ref b, .ref l] ∧ Bx H b (n + 1) ∧ H l = some (.lst xs) ∧ l ≠ b ∧ xs ≠ [] ∧ xs.length ≤ 1000 ∧
  ∀ (j : Nat) (x : V) (H' : Hp), xs[j]? = some x → Gr [b] H H' → Bx H' b n → Q x H'
theorem has_of (D : Df K mg "_law_of" s_law_of ps_law_of) (T : Txt mg) (G_law_take : Has P w K mg base 1 "_law_take" ps_law_take spTake) : Has P w K mg base 2 "_law_of" ps_law_of spOf := Has.mk' D fun f fd F => by
  refine F.ok sc_law_of (fun vs H Q E h => ?_) (fun cdv A outer s H vs Q E hr h => ?_)
  · obtain ⟨b, l, xs, n, rfl, _⟩ := h
    rfl
  · obtain ⟨b, l, xs, n, rfl, hb, hl, nb, ne, hz, q⟩ := h
    refine ⟨_, (pss_one (ps_ret (pe_ix (ix_listK (K := K)) (pv 1) (pe_callH G_law_take (hr.mono (by decide)) (by rfl) (pa_cons (pv 0) (pa_cons (pe_callB (call_len_seqK (K := K)) (by rfl) T.m_len (by decide +kernel) (pa_cons (pv 1) pa_nil)) pa_nil))) (fun _ _ => rfl)))), ?_⟩
    walk_at "w"
    have l0 : 0 < xs.length := List.length_pos_iff.mpr ne
    refine ⟨b, _, n, rfl, hb, by omega, by omega, fun r H1 r0 r1 g hb1 => ?_⟩
    have e : xs[r.toNat]? = some xs[r.toNat] := List.getElem?_eq_getElem (by omega)
    exact ⟨l, xs, r, _, rfl, rfl, SqL.of (g.k1 hl nb), at_of (by omega) e, q _ _ _ e g hb1⟩
theorem use_of {H : Hp} {Q : VK} {E : XK} {b l : Addr} {xs : List V} {n : Nat} (hb : Bx H b (n + 1)) (hl : H l = some (.lst xs)) (nb : l ≠ b) (ne : xs ≠ []) (hz : xs.length ≤ 1000) (k : ∀ (j : Nat) (x : V) (H' : Hp), xs[j]? = some x → Gr [b] H H' → Bx H' b n → Q x H') : spOf [.ref b, .ref l] H Q E := ⟨b, l, xs, n, rfl, hb, hl, nb, ne, hz, k⟩

end
end PK
namespace PK
open PySem L2
section
variable {P : Program} {w : World} {K : PySem.W.Frag} {mg : Str → Option Value} {base : Heap}
abbrev s_law_event : Stmt := topS 15
abbrev N_law_event : List Str := ["_law_box_here", "_law_w", "_law_folk", "_law_names", "_law_words", "_law_way", "_law_p", "_law_key_so", "_law_gap"]
abbrev ps_law_event : List Str := ["_law_box_here", "_law_w", "_law_folk", "_law_names", "_law_words"]
theorem sc_law_event : FnScope N_law_event ps_law_event (defScope s_law_event) := ⟨rfl, rfl, rfl, by decide +kernel, rfl, by decide +kernel, by decide +kernel⟩
def spEvent : Sp := fun vs H Q _ => ∃ (b w sd cl nl : Addr) (st : WS) (n m : Nat) (folk : Int) (names : List Str) (words : Str), vs = [.ref b, .ref w, .int folk, .ref nl, .str words] ∧
  Bx H b (m + 5) ∧ WAt H w sd cl st n ∧ n ≤ 1000 ∧ b ≠ cl ∧ 1 ≤ folk ∧ folk ≤ 4 ∧ H nl = some (.lst (names.map V.str)) ∧ nl ≠ b ∧ names ≠ [] ∧ names.length ≤ 100 ∧ (∀ k ∈ names, KeyOk k) ∧ 0 < words.length ∧ words.length ≤ 100 ∧ 0 ≤ st.many ∧ st.many ≤ 1000 ∧ (∀ r p, st.seats r = some p → 0 ≤ p) ∧
  ∀ (v : V) (H' : Hp), Gr [b] H H' → Bx H' b m → (v = .non ∨ ∃ e : Ev, IsEv H' v e ∧ st.fits e ∧ e.ok) → Q v H'
theorem has_event (D : Df K mg "_law_event" s_law_event ps_law_event) (T : Txt mg) (G_law_take : Has P w K mg base 1 "_law_take" ps_law_take spTake) (G_law_of : Has P w K mg base 2 "_law_of" ps_law_of spOf) :
    Has P w K mg base 3 "_law_event" ps_law_event spEvent := Has.mk' D fun f fd F => by
  refine F.ok sc_law_event (fun vs H Q E h => ?_) (fun cdv A outer s H vs Q E hr h => ?_)
  · obtain ⟨b, w, sd, cl, nl, st, n, m, folk, names, words, rfl, _⟩ := h
    rfl
  · obtain ⟨b, wa, sd, cl, nl, st, n, m, folk, names, words, rfl, hb, hw, hn, nbc, f1, f2, hnl, nnb, ne, nlen, hkeys, wl0, wl1, m0, m1, hsp, q⟩ := h
    have hwz : words.length ≤ sizeLine := Nat.le_trans wl1 (by decide)
    obtain ⟨bl, hbl⟩ := hb.lst
    have nbw : b ≠ wa := ne_of hbl hw.w (by intro z; cases z)
    have nbs : b ≠ sd := by
      obtain ⟨kvs, ks, hs, _⟩ := hw.s
      exact ne_of hbl hs (by intro z; cases z)
    refine ⟨_, (pss_cons (ps_par3 (i := 5) (j := 6) (l := 7) (by rfl) sc_law_event.nd rfl rfl rfl (by decide) (by decide) (by decide) rfl rfl rfl (pa_cons (pe_ix ix_str (pv 4) (pe_callH G_law_take (hr.mono (by decide)) (by rfl) (pa_cons (pv 0) (pa_cons (pe_callB call_len_str (by rfl) T.m_len (by decide +kernel) (pa_cons (pv 4) pa_nil)) pa_nil))) (fun _ _ => rfl)) (pa_cons (pe_callH G_law_take (hr.mono (by decide)) (by rfl) (pa_cons (pv 0) (pa_cons (pv 2) pa_nil))) (pa_cons (pe_callH G_law_of (hr.mono (by decide)) (by rfl) (pa_cons (pv 0) (pa_cons (pv 3) pa_nil))) pa_nil))) (by rfl))
(pss_cons (ps_if (pt_cmpR op_eq (pv 5) pe_str (nomark _))
  (pss_one (ps_ret (pe_tup (pa_cons pe_str (pa_cons (pv 7) (pa_cons (pe_callH G_law_take (hr.mono (by decide)) (by rfl) (pa_cons (pv 0) (pa_cons pe_int pa_nil))) pa_nil))))))
  pss_nil)
(pss_cons (ps_if (pt_cmpR (op_in_seqK (K := K)) (pv 5) (pe_tup (pa_cons pe_str (pa_cons pe_str pa_nil))) (by rfl))
  (pss_one (ps_ret (pe_ifExp (pt_cmpR op_eq (pv 5) pe_str (nomark _)) (pe_tup (pa_cons pe_str (pa_cons (pv 7) pa_nil))) (pe_tup (pa_cons pe_str pa_nil)))))
  pss_nil)
(pss_cons (ps_if (pt_cmpR op_eq (pv 5) pe_str (nomark _))
  (pss_one (ps_ret (pe_tup (pa_cons pe_str (pa_cons (pv 6) pa_nil)))))
  pss_nil)
(pss_cons (ps_if (pt_cmpR op_eq (pv 5) pe_str (nomark _))
  (pss_one (ps_ret (pe_ifExp (pt_cmpR (op_neDK (K := K) hr.units) (pe_dget (hu_of hr) (pv 1) pe_str (fun _ _ => rfl)) (pe_lst pa_nil) (nomark _)) (pe_tup (pa_cons pe_str (pa_cons (pv 6) (pa_cons (pe_callH G_law_take (hr.mono (by decide)) (by rfl) (pa_cons (pv 0) (pa_cons (pe_callB (call_len_seqK (K := K)) (by rfl) T.m_len (by decide +kernel) (pa_cons (pe_dget (hu_of hr) (pv 1) pe_str (fun _ _ => rfl)) pa_nil)) pa_nil))) pa_nil)))) pe_non)))
  pss_nil)
(pss_cons (ps_if (pt_cmp (pc_dnotin (hu_of hr) (pv 6) (pe_dget (hu_of hr) (pv 1) pe_str (fun _ _ => rfl))))
  (pss_one (ps_ret (pe_tup (pa_cons pe_str (pa_cons (pv 6) pa_nil)))))
  pss_nil)
(pss_cons (ps_if (pt_cmpR op_eq (pv 5) pe_str (nomark _))
  (pss_one (ps_ret (pe_tup (pa_cons pe_str (pa_cons (pv 6) pa_nil)))))
  pss_nil)
(pss_cons (ps_set (i := 8) sc_law_event.nd rfl (Or.inl rfl) (pe_op op_sub (pe_dget (hu_of hr) (pv 1) pe_str (fun _ _ => rfl)) (pe_dget (hu_of hr) (pe_dget (hu_of hr) (pv 1) pe_str (fun _ _ => rfl)) (pv 6) (fun _ _ => rfl))))
(pss_one (ps_ret (pe_ifExp (pt_cmpR op_gt (pv 8) pe_int (nomark _)) (pe_tup (pa_cons pe_str (pa_cons (pv 6) (pa_cons (pe_op op_add (pe_op op_add (pe_dget (hu_of hr) (pe_dget (hu_of hr) (pv 1) pe_str (fun _ _ => rfl)) (pv 6) (fun _ _ => rfl)) pe_int) (pe_callH G_law_take (hr.mono (by decide)) (by rfl) (pa_cons (pv 0) (pa_cons (pv 8) pa_nil)))) pa_nil)))) pe_non))))))))))), ?_⟩
    walk_at "w"
    refine ⟨_, rfl, hwz, ?_⟩
    walk_at "w"
    refine use_take hb (by omega) (by omega) (fun r1 H1 r10 r11 g1 hb1 => ?_)
    refine ⟨words, r1, _, rfl, rfl, hwz, WK.at_ofG (j := r1.toNat) (by omega) (List.getElem?_eq_getElem (show r1.toNat < words.cps.toList.length by rw [Array.length_toList]; show r1.toNat < words.length; omega)), ?_⟩
    walk_at "w"
    refine use_take hb1 (by omega) (by omega) (fun p H2 p0 p1 g2 hb2 => ?_)
    walk_at "w"
    have hnl2 := g2.k1 (g1.k1 hnl nnb) nnb
    refine use_of hb2 hnl2 nnb (by simpa using ne) (by rw [List.length_map]; omega) (fun j key H3 hj g3 hb3 => ?_)
    obtain ⟨ky, hky, rfl⟩ : ∃ ky, ky ∈ names ∧ key = V.str ky := by
      rw [List.getElem?_map] at hj
      cases e : names[j]? with
      | none => rw [e] at hj; cases hj
      | some z => rw [e] at hj; exact ⟨z, List.mem_of_getElem? e, (Option.some.inj hj).symm⟩
    have g03 : Gr [b] H H3 := (g1.trans g2).trans g3
    have hw3 : WAt H3 wa sd cl st n := hw.keep g03 (by simpa using nbw.symm) (by simpa using nbs.symm) (by simpa using nbc.symm)
    clear hj hb2 hb1 hb g1 g2 g3 hnl2
    walk_at "w"
    walk_at "i"
    refine WK.w_2 (fun h1 => ?_) (fun h1 => ?_)
    · walk_at "w"
      refine use_take (n := m) (hb3.mono (by omega)) (by omega) (by omega) (fun x H4 x0 x1 g4 hb4 => ?_)
      walk_at "w"
      refine ⟨WK.sz, fun p np => ?_⟩
      exact q _ _ ((g03.trans g4).trans (Gr.new np)) (hb4.keep (Gr.new (M := []) np) (by simp)) (.inr ⟨.put ky x, ⟨p, rfl, upd_same⟩, True.intro, hkeys _ hky, x0, x1⟩)
    walk_at "w"
    walk_at "i"
    refine ⟨WK.sz, fun t nt => ?_⟩
    have g04 : Gr [b] H (upd H3 t (.tup [V.str "d", V.str "w"])) := g03.trans (Gr.new nt)
    have hb4 : Bx (upd H3 t (.tup [V.str "d", V.str "w"])) b (m + 2) := hb3.keep (Gr.new (M := []) nt) (by simp)
    have hw4 : WAt (upd H3 t (.tup [V.str "d", V.str "w"])) wa sd cl st n := hw3.keep (Gr.new (M := []) nt) (by simp) (by simp) (by simp)
    have ht4 : (upd H3 t (.tup [V.str "d", V.str "w"])) t = some (.tup [V.str "d", V.str "w"]) := upd_same
    clear hw3 hb3 g03
    generalize (upd H3 t (.tup [V.str "d", V.str "w"])) = H4 at *
    walk_at "w"
    refine ite2 (fun h2 => ?_) (fun h2 => ?_)
    · walk_at "w"
      walk_at "i"
      refine WK.w_2 (fun h3 => ?_) (fun h3 => ?_)
      · walk_at "w"
        refine ⟨WK.sz, fun p np => ?_⟩
        exact q _ _ (g04.trans (Gr.new np)) ((hb4.keep (Gr.new (M := []) np) (by simp)).mono (by omega)) (.inr ⟨.drop ky, ⟨p, rfl, upd_same⟩, True.intro, hkeys _ hky⟩)
      · walk_at "w"
        refine ⟨WK.sz, fun p np => ?_⟩
        exact q _ _ (g04.trans (Gr.new np)) ((hb4.keep (Gr.new (M := []) np) (by simp)).mono (by omega)) (.inr ⟨.wait, ⟨p, rfl, upd_same⟩, True.intro, True.intro⟩)
    walk_at "w"
    walk_at "i"
    refine WK.w_2 (fun h3 => ?_) (fun h3 => ?_)
    · walk_at "w"
      refine ⟨WK.sz, fun z np => ?_⟩
      exact q _ _ (g04.trans (Gr.new np)) ((hb4.keep (Gr.new (M := []) np) (by simp)).mono (by omega)) (.inr ⟨.join p, ⟨z, rfl, upd_same⟩, True.intro, p0, by omega⟩)
    walk_at "w"
    walk_at "i"
    refine WK.w_2 (fun h4 => ?_) (fun h4 => ?_)
    · walk_at "w"
      walk_at "i"
      refine ⟨_, _, rfl, hw4.g_copies, ?_⟩
      walk_at "w"
      refine ⟨WK.sz, fun z nz => ?_⟩
      have g5 : Gr [] H4 (upd H4 z (.lst [])) := Gr.new nz
      have hw5 := hw4.keep g5 (by simp) (by simp) (by simp)
      have hb5 := hb4.keep g5 (by simp)
      have g05 := g04.trans (g5.mono (by simp))
      have hz5 : (upd H4 z (.lst [])) z = some (.lst []) := upd_same
      generalize (upd H4 z (.lst [])) = H5 at *
      refine w_neNil (n := 0) (SqL.of hw5.c) (dp_ints _) (.ints _) (by decide) hz5 ?_
      walk_at "w"
      refine ite2 (fun h5 => ?_) (fun h5 => ?_)
      · have hc : 0 < st.copies.length := by
          cases e : st.copies with
          | nil => rw [e] at h5; simp at h5
          | cons x y => simp
        have hcn := hw5.cn
        walk_at "w"
        refine ⟨_, _, rfl, hw5.g_copies, ?_⟩
        refine ⟨_, _, rfl, .inl (SqL.of hw5.c), ?_⟩
        walk_at "w"
        refine use_take (n := m) (hb5.mono (by omega)) (by rw [List.length_map]; omega) (by rw [List.length_map]; omega) (fun x H6 x0 x1 g6 hb6 => ?_)
        rw [List.length_map] at x1
        walk_at "w"
        refine ⟨WK.sz, fun y ny => ?_⟩
        exact q _ _ ((g05.trans g6).trans (Gr.new ny)) ((hb6.keep (Gr.new (M := []) ny) (by simp)).mono (by omega)) (.inr ⟨.load p x, ⟨y, rfl, upd_same⟩, ⟨x0, x1⟩, ⟨p0, by omega⟩, x0⟩)
      · walk_at "w"
        exact q _ _ g05 (hb5.mono (by omega)) (.inl rfl)
    walk_at "w"
    walk_at "i"
    refine ⟨_, _, rfl, hw4.g_seats, ?_⟩
    refine ⟨_, _, rfl, hw4.g_seat p, ?_⟩
    walk_at "w"
    cases hsp' : st.seats p with
    | none =>
      refine WK.w_ifP (by rfl) ?_
      walk_at "w"
      refine ⟨WK.sz, fun z np => ?_⟩
      exact q _ _ (g04.trans (Gr.new np)) ((hb4.keep (Gr.new (M := []) np) (by simp)).mono (by omega)) (.inr ⟨.join p, ⟨z, rfl, upd_same⟩, True.intro, p0, by omega⟩)
    | some pl =>
      refine WK.w_ifN (by simp) ?_
      walk_at "w"
      walk_at "i"
      refine WK.w_2 (fun h5 => ?_) (fun h5 => ?_)
      · walk_at "w"
        refine ⟨WK.sz, fun z np => ?_⟩
        exact q _ _ (g04.trans (Gr.new np)) ((hb4.keep (Gr.new (M := []) np) (by simp)).mono (by omega)) (.inr ⟨.save p, ⟨z, rfl, upd_same⟩, ⟨pl, hsp'⟩, p0, by omega⟩)
      walk_at "w"
      have hg := hw4.g_seat p
      rw [hsp'] at hg
      refine ⟨_, _, rfl, hw4.g_many, ?_⟩
      walk_at "w"
      refine ⟨_, _, rfl, hw4.g_seats, ?_⟩
      walk_at "w"
      refine ⟨_, _, rfl, hg, ?_⟩
      walk_at "w"
      walk_at "i"
      have pl0 := hsp p pl hsp'
      refine WK.w_2 (fun h6 => ?_) (fun h6 => ?_)
      · walk_at "w"
        refine ⟨_, _, rfl, hw4.g_seats, ?_⟩
        walk_at "w"
        refine ⟨_, _, rfl, hg, ?_⟩
        walk_at "w"
        refine use_take (n := m) (hb4.mono (by omega)) (by omega) (by omega) (fun x H6 x0 x1 g6 hb6 => ?_)
        walk_at "w"
        refine ⟨WK.sz, fun y ny => ?_⟩
        exact q _ _ ((g04.trans g6).trans (Gr.new ny)) ((hb6.keep (Gr.new (M := []) ny) (by simp)).mono (by omega)) (.inr ⟨.read p (pl + 1 + x), ⟨y, rfl, upd_same⟩, ⟨pl, hsp', by omega, by omega⟩, ⟨p0, by omega⟩, by omega⟩)
      · walk_at "w"
        exact q _ _ g04 (hb4.mono (by omega)) (.inl rfl)

end
end PK
namespace PK
open PySem L2
section
variable {P : Program} {w : World} {K : PySem.W.Frag} {mg : Str → Option Value} {base : Heap}
abbrev s_law_moved : Stmt := topS 16
abbrev N_law_moved : List Str := ["_law_w", "_law_event_so", "_law_word"]
abbrev ps_law_moved : List Str := ["_law_w", "_law_event_so"]
theorem sc_law_moved : FnScope N_law_moved ps_law_moved (defScope s_law_moved) := ⟨rfl, rfl, rfl, by decide +kernel, rfl, by decide +kernel, by decide +kernel⟩
def spMoved : Sp := fun vs H Q _ => ∃ (w sd cl : Addr) (st : WS) (n : Nat) (v : V) (e : Ev), vs = [.ref w, v] ∧ WAt H w sd cl st n ∧ n ≤ 1000 ∧ IsEv H v e ∧ st.fits e ∧
  ∀ H' : Hp, Gr [w, sd, cl] H H' → WAt H' w sd cl (st.step e) (n + 1) → Q .non H'
theorem has_moved (D : Df K mg "_law_moved" s_law_moved ps_law_moved) (T : Txt mg) : Has P w K mg base 1 "_law_moved" ps_law_moved spMoved := Has.mk' D fun f fd F => by
  refine F.ok sc_law_moved (fun vs H Q E h => ?_) (fun cdv A outer s H vs Q E hr h => ?_)
  · obtain ⟨w, sd, cl, st, n, v, e, rfl, _⟩ := h
    rfl
  · obtain ⟨wa, sd, cl, st, n, _, e, rfl, hw, hn, ⟨a, rfl, ha⟩, hf, q⟩ := h
    refine ⟨_, (pss_cons (ps_set (i := 2) sc_law_moved.nd rfl (Or.inl rfl) (pe_ix (ix_tupK (K := K)) (pv 1) pe_int (fun _ _ => rfl)))
(pss_one (ps_if (pt_cmpR (op_in_seqK (K := K)) (pv 2) (pe_tup (pa_cons pe_str (pa_cons pe_str pa_nil))) (by rfl))
  (pss_one (ps_dput (hu_of hr) (pv 0) pe_str (pe_op op_add (pe_dget (hu_of hr) (pv 0) pe_str (fun _ _ => rfl)) pe_int) rfl))
  (pss_one (ps_if (pt_cmpR op_eq (pv 2) pe_str (nomark _))
    (pss_one (ps_dput (hu_of hr) (pe_dget (hu_of hr) (pv 0) pe_str (fun _ _ => rfl)) (pe_ix (ix_tupK (K := K)) (pv 1) pe_int (fun _ _ => rfl)) pe_int rfl))
    (pss_one (ps_if (pt_cmpR op_eq (pv 2) pe_str (nomark _))
      (pss_one (ps_dput (hu_of hr) (pe_dget (hu_of hr) (pv 0) pe_str (fun _ _ => rfl)) (pe_ix (ix_tupK (K := K)) (pv 1) pe_int (fun _ _ => rfl)) (pe_ix (ix_tupK (K := K)) (pv 1) pe_int (fun _ _ => rfl)) rfl))
      (pss_one (ps_if (pt_cmpR op_eq (pv 2) pe_str (nomark _))
        (pss_one (ps_expr (pe_bm PySem.F.plainAttrs_list PySem.F.slot_list_append PySem.F.type_list_append mt_append (pe_dget (hu_of hr) (pv 0) pe_str (fun _ _ => rfl)) (pa_cons (pe_dget (hu_of hr) (pe_dget (hu_of hr) (pv 0) pe_str (fun _ _ => rfl)) (pe_ix (ix_tupK (K := K)) (pv 1) pe_int (fun _ _ => rfl)) (fun _ _ => rfl)) pa_nil))))
        (pss_one (ps_if (pt_cmpR op_eq (pv 2) pe_str (nomark _))
          (pss_one (ps_dput (hu_of hr) (pe_dget (hu_of hr) (pv 0) pe_str (fun _ _ => rfl)) (pe_ix (ix_tupK (K := K)) (pv 1) pe_int (fun _ _ => rfl)) (pe_ix (ix_listK (K := K)) (pe_dget (hu_of hr) (pv 0) pe_str (fun _ _ => rfl)) (pe_ix (ix_tupK (K := K)) (pv 1) pe_int (fun _ _ => rfl)) (fun _ _ => rfl)) rfl))
          pss_nil))))))))))), ?_⟩
    have fl : ∀ (p : Addr), H p = none → ∀ o, Gr [wa, sd, cl] H (upd H p o) := fun p np o => Gr.new np
    cases e with
    | put k v =>
      walk_at "w"
      walk_at "i"
      refine ⟨WK.sz, fun t nt => ?_⟩
      walk_at "w"
      refine WK.w_ifP (by decide +kernel) ?_
      walk_at "w"
      have h1 := hw.keep (Gr.new (M := []) (o := .tup [V.str "put", V.str "drop"]) nt) (by simp) (by simp) (by simp)
      refine ⟨_, _, rfl, h1.g_many, ?_⟩
      walk_at "w"
      refine ⟨_, _, rfl, h1.p_many _, ?_⟩
      exact q _ ((Gr.new nt).trans (Gr.mutD h1.w (by simp))) ((h1.many _).mono (by omega))
    | drop k =>
      walk_at "w"
      walk_at "i"
      refine ⟨WK.sz, fun t nt => ?_⟩
      walk_at "w"
      refine WK.w_ifP (by decide +kernel) ?_
      walk_at "w"
      have h1 := hw.keep (Gr.new (M := []) (o := .tup [V.str "put", V.str "drop"]) nt) (by simp) (by simp) (by simp)
      refine ⟨_, _, rfl, h1.g_many, ?_⟩
      walk_at "w"
      refine ⟨_, _, rfl, h1.p_many _, ?_⟩
      exact q _ ((Gr.new nt).trans (Gr.mutD h1.w (by simp))) ((h1.many _).mono (by omega))
    | join r => 
      walk_at "w"
      walk_at "i"
      refine ⟨WK.sz, fun t nt => ?_⟩
      walk_at "w"
      refine WK.w_ifN (by decide +kernel) ?_
      have h1 := hw.keep (Gr.new (M := []) (o := .tup [V.str "put", V.str "drop"]) nt) (by simp) (by simp) (by simp)
      have a1 := (Gr.new (M := []) (o := .tup [V.str "put", V.str "drop"]) nt).tup a _ ha
      walk_at "i"
      refine WK.w_ifP (by decide +kernel) ?_
      walk_at "w"
      refine ⟨_, _, rfl, h1.g_seats, ?_⟩
      walk_at "w"
      obtain ⟨o, d, h2, g2⟩ := h1.p_seat hn r 0
      refine ⟨_, _, rfl, d, ?_⟩
      exact q _ ((Gr.new nt).trans g2) h2
    | read r u => 
      walk_at "w"
      walk_at "i"
      refine ⟨WK.sz, fun t nt => ?_⟩
      walk_at "w"
      refine WK.w_ifN (by decide +kernel) ?_
      have h1 := hw.keep (Gr.new (M := []) (o := .tup [V.str "put", V.str "drop"]) nt) (by simp) (by simp) (by simp)
      have a1 := (Gr.new (M := []) (o := .tup [V.str "put", V.str "drop"]) nt).tup a _ ha
      walk_at "i"
      refine WK.w_ifN (by decide +kernel) ?_
      walk_at "i"
      refine WK.w_ifP (by decide +kernel) ?_
      walk_at "w"
      refine ⟨_, _, rfl, h1.g_seats, ?_⟩
      walk_at "w"
      obtain ⟨o, d, h2, g2⟩ := h1.p_seat hn r u
      refine ⟨_, _, rfl, d, ?_⟩
      exact q _ ((Gr.new nt).trans g2) h2
    | save r =>
      walk_at "w"
      walk_at "i"
      refine ⟨WK.sz, fun t nt => ?_⟩
      walk_at "w"
      refine WK.w_ifN (by decide +kernel) ?_
      have h1 := hw.keep (Gr.new (M := []) (o := .tup [V.str "put", V.str "drop"]) nt) (by simp) (by simp) (by simp)
      have a1 := (Gr.new (M := []) (o := .tup [V.str "put", V.str "drop"]) nt).tup a _ ha
      walk_at "i"
      refine WK.w_ifN (by decide +kernel) ?_
      walk_at "i"
      refine WK.w_ifN (by decide +kernel) ?_
      walk_at "i"
      refine WK.w_ifP (by decide +kernel) ?_
      walk_at "w"
      refine ⟨_, _, rfl, h1.g_copies, ?_⟩
      refine ⟨.inl ⟨rfl, _, SqL.of h1.c⟩, ?_⟩
      walk_at "w"
      refine ⟨_, _, rfl, h1.g_seats, ?_⟩
      walk_at "w"
      obtain ⟨p, hp⟩ := hf
      have hg := h1.g_seat r
      rw [hp] at hg
      refine ⟨_, _, rfl, hg, ?_⟩
      walk_at "w"
      have hcn := h1.cn
      refine ⟨cl, _, _, rfl, rfl, h1.c, WK.sz' (by rw [List.length_map]; omega), ?_⟩
      refine q _ ((Gr.new nt).trans (Gr.mutL h1.c (by simp))) ⟨?_, ?_, ?_, ?_⟩
      · rw [upd_ne h1.ne2]; exact h1.w
      · obtain ⟨kvs, ks, hs, r1, r2, r3, r4⟩ := h1.s
        exact ⟨kvs, ks, by rw [upd_ne h1.ne3]; exact hs, r1, r2, by omega, r4⟩
      · rw [upd_same]
        show _ = some (HO.lst (List.map V.int (st.copies ++ [(st.seats r).getD 0])))
        rw [hp, List.map_append]
        rfl
      · show (st.copies ++ [(st.seats r).getD 0]).length ≤ n + 1
        rw [List.length_append, List.length_singleton]
        omega
    | load r c =>
      walk_at "w"
      walk_at "i"
      refine ⟨WK.sz, fun t nt => ?_⟩
      walk_at "w"
      refine WK.w_ifN (by decide +kernel) ?_
      have h1 := hw.keep (Gr.new (M := []) (o := .tup [V.str "put", V.str "drop"]) nt) (by simp) (by simp) (by simp)
      have a1 := (Gr.new (M := []) (o := .tup [V.str "put", V.str "drop"]) nt).tup a _ ha
      walk_at "i"
      refine WK.w_ifN (by decide +kernel) ?_
      walk_at "i"
      refine WK.w_ifN (by decide +kernel) ?_
      walk_at "i"
      refine WK.w_ifN (by decide +kernel) ?_
      walk_at "i"
      refine WK.w_ifP (by decide +kernel) ?_
      walk_at "w"
      obtain ⟨c0, c1⟩ := hf
      refine ⟨_, _, rfl, h1.g_copies, ?_⟩
      walk_at "w"
      have e : st.copies[c.toNat]? = some (st.copies.getD c.toNat 0) := by
        rw [List.getD_eq_getElem?_getD, List.getElem?_eq_getElem (by omega)]
        rfl
      refine ⟨cl, _, c, .int (st.copies.getD c.toNat 0), rfl, rfl, SqL.of h1.c, WK.at_ofG (j := c.toNat) (by omega) (by rw [List.getElem?_map, e]; rfl), ?_⟩
      walk_at "w"
      refine ⟨_, _, rfl, h1.g_seats, ?_⟩
      walk_at "w"
      obtain ⟨o, d, h2, g2⟩ := h1.p_seat hn r (st.copies.getD c.toNat 0)
      refine ⟨_, _, rfl, d, ?_⟩
      exact q _ ((Gr.new nt).trans g2) h2
    | wait =>
      walk_at "w"
      walk_at "i"
      refine ⟨WK.sz, fun t nt => ?_⟩
      walk_at "w"
      refine WK.w_ifN (by decide +kernel) ?_
      have h1 := hw.keep (Gr.new (M := []) (o := .tup [V.str "put", V.str "drop"]) nt) (by simp) (by simp) (by simp)
      have a1 := (Gr.new (M := []) (o := .tup [V.str "put", V.str "drop"]) nt).tup a _ ha
      walk_at "i"
      refine WK.w_ifN (by decide +kernel) ?_
      walk_at "i"
      refine WK.w_ifN (by decide +kernel) ?_
      walk_at "i"
      refine WK.w_ifN (by decide +kernel) ?_
      walk_at "i"
      refine WK.w_ifN (by decide +kernel) ?_
      walk_at "w"
      exact q _ (Gr.new nt) (h1.mono (by omega))
theorem use_moved {H : Hp} {Q : VK} {E : XK} {w sd cl : Addr} {st : WS} {n : Nat} {v : V} {e : Ev} (hw : WAt H w sd cl st n) (hn : n ≤ 1000) (he : IsEv H v e) (hf : st.fits e) (k : ∀ H' : Hp, Gr [w, sd, cl] H H' → WAt H' w sd cl (st.step e) (n + 1) → Q .non H') : spMoved [.ref w, v] H Q E := ⟨w, sd, cl, st, n, v, e, rfl, hw, hn, he, hf, k⟩

end
end PK
namespace PK
open PySem L2
section
variable {P : Program} {w : World} {K : PySem.W.Frag} {mg : Str → Option Value} {base : Heap}
abbrev s_law_table : Stmt := topS 17
abbrev N_law_table : List Str := ["_law_box_here", "_law_many_here", "_law_most", "_law_folk", "_law_names", "_law_words", "_law_found", "_law_w", "_law_turn", "_law_event_so", "_law_is_full"]
abbrev ps_law_table : List Str := ["_law_box_here", "_law_many_here", "_law_most", "_law_folk", "_law_names", "_law_words"]
theorem sc_law_table : FnScope N_law_table ps_law_table (defScope s_law_table) := ⟨rfl, rfl, rfl, by decide +kernel, rfl, by decide +kernel, by decide +kernel⟩
structure TbAt (H0 H : Hp) (b L w sd cl : Addr) (m i : Nat) (es : List Ev) (xs : List V) : Prop where
  g : Gr [b] H0 H
  bx : Bx H b m
  wa : WAt H w sd cl (WS.nil.run es) i
  l : H L = some (.lst xs)
  ev : Evs H xs es
  va : Valid .nil es
  ok : ∀ e ∈ es, e.ok
  len : es.length ≤ i
theorem TbAt.gr {H0 H H1 : Hp} {b L w sd cl : Addr} {m i : Nat} {es : List Ev} {xs : List V} (t : TbAt H0 H b L w sd cl m i es xs) (g : Gr [] H H1) : TbAt H0 H1 b L w sd cl m i es xs :=
  ⟨t.g.trans (g.mono (by simp)), t.bx.keep g (by simp), t.wa.keep g (by simp) (by simp) (by simp), g.k0 t.l, t.ev.gr g, t.va, t.ok, t.len⟩
def spTable : Sp := fun vs H Q _ => ∃ (b nl : Addr) (m k : Nat) (most folk : Int) (names : List Str) (words : Str), vs = [.ref b, .int k, .int most, .int folk, .ref nl, .str words] ∧
  Bx H b (m + 5 * k) ∧ k ≤ 100 ∧ 1 ≤ folk ∧ folk ≤ 4 ∧ H nl = some (.lst (names.map V.str)) ∧ nl ≠ b ∧ names ≠ [] ∧ names.length ≤ 100 ∧ (∀ k ∈ names, KeyOk k) ∧ 0 < words.length ∧ words.length ≤ 100 ∧
  ∀ (v : V) (H' : Hp) (es : List Ev), Gr [b] H H' → Bx H' b m → IsTT H' v es → Valid .nil es → (∀ e ∈ es, e.ok) → es.length ≤ k → Q v H'
theorem has_table (D : Df K mg "_law_table" s_law_table ps_law_table) (T : Txt mg) (G_law_event : Has P w K mg base 3 "_law_event" ps_law_event spEvent) (G_law_moved : Has P w K mg base 1 "_law_moved" ps_law_moved spMoved) :
    Has P w K mg base 4 "_law_table" ps_law_table spTable := Has.mk' D fun f fd F => by
  refine F.ok sc_law_table (fun vs H Q E h => ?_) (fun cdv A outer s H vs Q E hr h => ?_)
  · obtain ⟨b, nl, m, k, most, folk, names, words, rfl, _⟩ := h
    rfl
  · obtain ⟨b, nl, m, k, most, folk, names, words, rfl, hb, hk, f1, f2, hnl, nnb, ne, nlen, hkeys, wl0, wl1, q⟩ := h
    refine ⟨_, (pss_cons (ps_par (i := 6) (j := 7) (by rfl) sc_law_table.nd rfl rfl (by decide) rfl rfl (pa_cons (pe_lst pa_nil) (pa_cons (pe_disp (pps_cons pe_str pe_dnewK (pps_cons pe_str (pe_lst pa_nil) (pps_cons pe_str pe_int pps_nil))) (by rfl) (by rfl) (fun z => by cases z) (by decide)) pa_nil)) (by rfl))
(pss_cons (ps_for PassesOwn.never rfl (pi_range1 (by rfl) T.m_range (pa_cons (pv 1) pa_nil)) (pg_name (i := 8) sc_law_table.nd rfl (Or.inl rfl))
  (pss_cons (ps_set (i := 9) sc_law_table.nd rfl (Or.inl rfl) (pe_callH G_law_event (hr.mono (by decide)) (by rfl) (pa_cons (pv 0) (pa_cons (pv 7) (pa_cons (pv 3) (pa_cons (pv 4) (pa_cons (pv 5) pa_nil)))))))
  (pss_cons (ps_set (i := 10) sc_law_table.nd rfl (Or.inl rfl) (pe_and (pe_cmpR op_notN (pv 9) pe_non (nomark _)) (pe_and (pe_cmpR (op_in_seqK (K := K)) (pe_ix (ix_tupK (K := K)) (pv 9) pe_int (fun _ _ => rfl)) (pe_tup (pa_cons pe_str (pa_cons pe_str pa_nil))) (by rfl)) (pe_one (pe_cmpR op_ge (pe_dget (hu_of hr) (pv 7) pe_str (fun _ _ => rfl)) (pv 2) (nomark _))))))
  (pss_one (ps_if (PW.pt (pw_and (pt_cmpR op_notN (pv 9) pe_non (nomark _)) (pw_and (pt_not (pt_val (pv 10))) (pw_and1 (PW.pt (pw_or (pt_cmpR op_ne (pe_ix (ix_tupK (K := K)) (pv 9) pe_int (fun _ _ => rfl)) pe_str (nomark _)) (pw_or1 (pt_cmpR op_lt (pe_callB (call_len_seqK (K := K)) (by rfl) T.m_len (by decide +kernel) (pa_cons (pe_dget (hu_of hr) (pv 7) pe_str (fun _ _ => rfl)) pa_nil)) pe_int (nomark _)))))))))
    (pss_cons (ps_expr (pe_callH G_law_moved (hr.mono (by decide)) (by rfl) (pa_cons (pv 7) (pa_cons (pv 9) pa_nil))))
    (pss_one (ps_expr (pe_bm PySem.F.plainAttrs_list PySem.F.slot_list_append PySem.F.type_list_append mt_append (pv 6) (pa_cons (pv 9) pa_nil)))))
    pss_nil)))))
(pss_one (ps_ret (pe_callTy (call_tuple_ofK (K := K)) (by rfl) T.m_tuple (by decide +kernel) (pa_cons (pv 6) pa_nil)))))), ?_⟩
    walk_at "w"
    refine ⟨WK.sz, fun L nL => ?_⟩
    walk_at "w"
    refine w_wdict fun wa sd cl H1 nw ns nc g1 hw => ?_
    walk_at "w"
    have L1 : H1 L = some (.lst []) := g1.k0 upd_same
    have nwL : wa ≠ L := fun e => by rw [e, upd_same] at nw; cases nw
    have nsL : sd ≠ L := fun e => by rw [e, upd_same] at ns; cases ns
    have ncL : cl ≠ L := fun e => by rw [e, upd_same] at nc; cases nc
    have nw0 : H wa = none := by rw [upd_ne nwL] at nw; exact nw
    have ns0 : H sd = none := by rw [upd_ne nsL] at ns; exact ns
    have nc0 : H cl = none := by rw [upd_ne ncL] at nc; exact nc
    obtain ⟨bl, hbl⟩ := hb.lst
    have nbL : b ≠ L := ne_of_none hbl nL
    have nbw : b ≠ wa := ne_of_none hbl nw0
    have nbs : b ≠ sd := ne_of_none hbl ns0
    have nbc : b ≠ cl := ne_of_none hbl nc0
    have g01 : Gr [] H H1 := (Gr.new nL).trans g1
    refine ⟨by omega, by omega, lp_range (fun i σ' H' => ∃ es xs y8 y9 y10, σ' = [some (.ref b), some (.int k), some (.int most), some (.int folk), some (.ref nl), some (.str words), some (.ref L), some (.ref wa), y8, y9, y10] ∧ TbAt H H' b L wa sd cl (m + 5 * (k - i)) i es xs)
      ⟨[], [], none, none, none, rfl, g01.mono (by simp), (hb.keep g01 (by simp)).mono (by omega), hw, L1, .nil, True.intro, by simp, Nat.le_refl _⟩ ?_ ?_⟩
    · rintro i _ H2 hi ⟨es, xs, y8, y9, y10, rfl, t⟩
      have hi' : i < k := by omega
      have gd := Gd.run (es := es) Gd.nil t.ok
      have gm0 := gd.m0
      have gm1 := gd.m1
      have tl := t.len
      walk_at "w"
      refine ⟨b, wa, sd, cl, nl, WS.nil.run es, i, m + 5 * (k - (i + 1)), folk, names, words, rfl, t.bx.mono (by omega), t.wa, by omega, nbc, f1, f2, t.g.k1 hnl nnb, nnb, ne, nlen, hkeys, wl0, wl1, gm0, by omega, gd.s, fun v H3 g3 hb3 hv => ?_⟩
      have t3 : TbAt H H3 b L wa sd cl (m + 5 * (k - (i + 1))) i es xs := ⟨t.g.trans g3, hb3, t.wa.keep g3 (by simpa using nbw.symm) (by simpa using nbs.symm) (by simpa using nbc.symm), g3.k1 t.l nbL.symm, t.ev.gr g3, t.va, t.ok, t.len⟩
      clear t hb3 g3
      walk_at "w"
      refine WK.w_gen (fun u H' => Gr [] H3 H' ∧ ∃ fb, u = V.bl fb) ?_ (fun Q0 q0 => ?_)
      · rintro _ H4 ⟨g4, fb, rfl⟩
        have t4 := t3.gr g4
        have hv4 : v = .non ∨ ∃ e : Ev, IsEv H4 v e ∧ (WS.nil.run es).fits e ∧ e.ok := hv.imp id fun ⟨e, h1, h2⟩ => ⟨e, h1.gr g4, h2⟩
        clear t3 hv
        walk_at "w"
        refine WK.w_if (WK.w_genT (fun b2 H' => Gr [] H4 H' ∧ (b2 = true → v ≠ .non)) ?_ (fun R0 r0 => ?_))
        · rintro b2 H5 ⟨g5, hb2⟩
          have t5 := t4.gr g5
          cases b2 with
          | false => exact ⟨es, xs, _, _, _, rfl, t5.g, t5.bx, t5.wa.mono (Nat.le_succ _), t5.l, t5.ev, t5.va, t5.ok, Nat.le_succ_of_le t5.len⟩
          | true =>
            obtain ⟨e, he, hf, hok⟩ := hv4.resolve_left (hb2 rfl)
            have he5 := he.gr g5
            refine WK.w_ifP rfl ?_
            walk_at "w"
            refine use_moved t5.wa (by omega) he5 hf fun H6 g6 hw6 => ?_
            have l6 := g6.keep L _ (by simp [nwL.symm, nsL.symm, ncL.symm]) t5.l
            walk_at "w"
            refine ⟨.inl ⟨rfl, xs, SqL.of l6⟩, ?_⟩
            walk_at "w"
            have xl : xs.length < sizeLine := by
              rw [t5.ev.length]
              exact WK.sz' (by have := t5.len; omega)
            refine ⟨L, xs, v, rfl, rfl, l6, xl, ?_⟩
            have g7 : Gr [L] H6 (upd H6 L (.lst (xs ++ [v]))) := Gr.mutL l6 (by simp)
            refine ⟨es ++ [e], xs ++ [v], _, _, _, rfl, ?_, ?_, ?_, upd_same, ?_, valid_snoc t5.va hf, ?_, ?_⟩
            · exact ⟨fun a o na ha => g7.keep a o (by simpa using ne_of_none ha nL) (g6.keep a o (by simp [ne_of_none ha nw0, ne_of_none ha ns0, ne_of_none ha nc0]) (t5.g.keep a o na ha)), fun a zs ha => g7.tup a zs (g6.tup a zs (t5.g.tup a zs ha)), fun a o u ha => g7.fix a o u (g6.fix a o u (t5.g.fix a o u ha)), fun a ha => t5.g.live a (g6.live a (g7.live a ha))⟩
            · exact (t5.bx.keep g6 (by simp [nbw, nbs, nbc])).keep g7 (by simpa using nbL)
            · rw [run_snoc]
              exact hw6.keep g7 (by simpa using nwL) (by simpa using nsL) (by simpa using ncL)
            · exact pr_append ((t5.ev.gr g6).gr g7) (.cons ((he5.gr g6).gr g7) .nil)
            · intro x hx
              rcases List.mem_append.mp hx with z | z
              · exact t5.ok x z
              · rw [List.mem_singleton] at z
                rw [z]
                exact hok
            · rw [List.length_append, List.length_singleton]
              have := t5.len
              omega
        · walk_at "i"
          refine WK.w_2n (fun h => ?_) (fun h => r0 _ _ ⟨Gr.refl _ _, fun z => by cases z⟩)
          have yes : ∀ H5, Gr [] H4 H5 → ∀ b2 : Bool, R0 b2 H5 := fun H5 g5 b2 => r0 _ _ ⟨g5, fun _ => h⟩
          obtain ⟨e, ⟨a, rfl, ha⟩, hf, hok⟩ := hv4.resolve_left h
          walk_at "i"
          cases fb with
          | true => exact WK.w_ifN (by decide) (yes _ (Gr.refl _ _) _)
          | false =>
            refine WK.w_ifP rfl ?_
            walk_at "i"
            refine WK.w_ixT ha e.at0 ?_
            walk_at "w"
            refine WK.w_2n (fun h2 => yes _ (Gr.refl _ _) _) (fun h2 => ?_)
            walk_at "w"
            refine ⟨_, _, rfl, t4.wa.g_copies, ?_⟩
            walk_at "w"
            refine ⟨_, _, rfl, .inl (SqL.of t4.wa.c), ?_⟩
            walk_at "w"
            exact yes _ (Gr.refl _ _) _
      · walk_at "i"
        refine WK.w_2n (fun h => ?_) (fun h => ?_)
        · obtain ⟨e, ⟨a, rfl, ha⟩, hf, hok⟩ := hv.resolve_left h
          walk_at "i"
          refine WK.w_ixT ha e.at0 ?_
          walk_at "w"
          refine ⟨WK.sz, fun z nz => ?_⟩
          refine WK.w_inT upd_same rfl rfl ?_
          walk_at "w"
          have g5 : Gr [] H3 (upd H3 z (.tup [.str "put", .str "drop"])) := Gr.new nz
          refine ite2 (fun h2 => ?_) (fun h2 => q0 _ _ ⟨g5, _, rfl⟩)
          walk_at "w"
          refine ⟨_, _, rfl, (t3.gr g5).wa.g_many, ?_⟩
          walk_at "w"
          exact q0 _ _ ⟨g5, _, rfl⟩
        · exact q0 _ _ ⟨Gr.refl _ _, _, rfl⟩
    · rintro σ' H' ⟨es, xs, y8, y9, y10, rfl, t⟩
      walk_at "w"
      have hL : xs.length ≤ sizeLine := by
        rw [t.ev.length]
        exact Nat.le_trans t.len (Nat.le_trans (by omega) (by decide : 100 ≤ sizeLine))
      refine ⟨L, xs, rfl, .inl ⟨SqL.of t.l, fun p np => q _ _ es (t.g.trans (Gr.new np)) ((t.bx.keep (Gr.new (M := []) np) (by simp)).mono (by omega)) ⟨p, xs, rfl, upd_same, t.ev.gr (Gr.new (M := []) np)⟩ t.va t.ok (by have := t.len; omega)⟩⟩

end
end PK
namespace PK
open PySem L2
section
variable {P : Program} {w : World} {K : PySem.W.Frag} {mg : Str → Option Value} {base : Heap}
abbrev s_law_ended : Stmt := topS 18
abbrev N_law_ended : List Str := ["_law_table_here", "_law_w", "_law_event_so", "_law_p"]
abbrev ps_law_ended : List Str := ["_law_table_here"]
theorem sc_law_ended : FnScope N_law_ended ps_law_ended (defScope s_law_ended) := ⟨rfl, rfl, rfl, by decide +kernel, rfl, by decide +kernel, by decide +kernel⟩
def spEnded : Sp := fun vs H Q _ => ∃ (v : V) (es : List Ev), vs = [v] ∧ IsTT H v es ∧ Valid .nil es ∧ (∀ e ∈ es, e.ok) ∧ es.length ≤ 60 ∧
  ∀ (v' : V) (H' : Hp) (es' : List Ev), Gr [] H H' → IsTT H' v' es' → Valid .nil es' → (∀ e ∈ es', e.ok) → es'.length ≤ 2 * es.length → Q v' H'
theorem has_ended (D : Df K mg "_law_ended" s_law_ended ps_law_ended) (T : Txt mg) (G_law_moved : Has P w K mg base 1 "_law_moved" ps_law_moved spMoved) :
    Has P w K mg base 2 "_law_ended" ps_law_ended spEnded := Has.mk' D fun f fd F => by
  refine F.ok sc_law_ended (fun vs H Q E h => ?_) (fun cdv A outer s H vs Q E hr h => ?_)
  · obtain ⟨v, es, rfl, _⟩ := h
    rfl
  · obtain ⟨_, es, rfl, ⟨a, xs, rfl, ha, hev⟩, hva, hok, hlen, q⟩ := h
    refine ⟨_, (pss_cons (ps_set (i := 1) sc_law_ended.nd rfl (Or.inr rfl) (pe_disp (pps_cons pe_str pe_dnewK (pps_cons pe_str (pe_lst pa_nil) (pps_cons pe_str pe_int pps_nil))) (by rfl) (by rfl) (fun z => by cases z) (by decide)))
(pss_cons (ps_for PassesOwn.never rfl (pi_tup (pv 0)) (pg_name (i := 2) sc_law_ended.nd rfl (Or.inl rfl))
  (pss_one (ps_expr (pe_callH G_law_moved (hr.mono (by decide)) (by rfl) (pa_cons (pv 1) (pa_cons (pv 2) pa_nil))))))
(pss_one (ps_ret (pe_op (op_catAK (K := K)) (pv 0) (pe_callTy (call_tuple_ofK (K := K)) (by rfl) T.m_tuple (by decide +kernel) (pa_cons (pe_lc (own := [("_law_p", 3)]) (g := gName 3)  rfl sc_law_ended.nd (pi_list (pe_callB (call_sortedDI rfl) (by rfl) T.m_sorted (by decide +kernel) (pa_cons (pe_dget (hu_of hr) (pv 1) pe_str (fun _ _ => rfl)) pa_nil))) (blkOk_by (own := [("_law_p", 3)]) (N := N_law_ended) (sc := defScope s_law_ended) (by decide +kernel)) (fun _ _ _ _ _ => pg_name (i := 3) sc_law_ended.nd rfl (Or.inl rfl)) (fun _ _ _ _ _ => pts_one (pt_cmpR op_lt (pe_dget (hu_of hr) (pe_dget (hu_of hr) (pv 1) pe_str (fun _ _ => rfl)) (pv 3) (fun _ _ => rfl)) (pe_dget (hu_of hr) (pv 1) pe_str (fun _ _ => rfl)) (nomark _))) (fun _ _ _ _ _ => (pe_tup (pa_cons pe_str (pa_cons (pv 3) (pa_cons (pe_dget (hu_of hr) (pv 1) pe_str (fun _ _ => rfl)) pa_nil)))))) pa_nil))))))), ?_⟩
    walk_at "w"
    refine w_wdict fun wa sd cl H1 nw ns nc g1 hw => ?_
    walk_at "w"
    refine ⟨⟨xs, SqT.of (g1.tup _ _ ha)⟩, lp_tup (xs := xs) (fun i σ' H' => ∃ y2, σ' = [some (.ref a), some (.ref wa), y2, none] ∧ Gr [] H H' ∧ WAt H' wa sd cl (WS.nil.run (es.take i)) i)
      ⟨_, rfl, g1, hw⟩ (fun i σ' H' _ ⟨_, _, g, _⟩ => SqT.of (g.tup _ _ ha)) ?_ ?_⟩
    · rintro i x _ H2 hx ⟨y2, rfl, g2, hw2⟩
      have hi : i < xs.length := (List.getElem?_eq_some_iff.mp hx).1
      rw [hev.length] at hi
      obtain ⟨e, he, hxe⟩ := pr_get hev hx
      walk_at "w"
      refine use_moved hw2 (by omega) (hxe.gr g2) (valid_take hva i he) fun H3 g3 hw3 => ?_
      refine ⟨_, rfl, g2.sub (L := [wa, sd, cl]) g3 (by simp [nw, ns, nc]), ?_⟩
      rw [take_snoc he, run_snoc]
      exact hw3
    · rintro _ H2 ⟨y2, rfl, g2, hw2⟩
      rw [hev.length, List.take_length] at hw2
      have gd := Gd.run (es := es) Gd.nil hok
      generalize hst : WS.nil.run es = st at hw2 gd
      walk_at "w"
      refine ⟨_, _, rfl, hw2.g_seats, ?_⟩
      walk_at "w"
      obtain ⟨kvs, ks, hs, k1, k2, k3, k4, k5⟩ := hw2.s
      refine ⟨sd, kvs, ks, rfl, .inl hs, k1, by omega, fun ys l hp hsort nl => ?_⟩
      have g3 : Gr [] H2 (upd H2 l (.lst (ys.map V.int))) := Gr.new nl
      have hl3 : (upd H2 l (.lst (ys.map V.int))) l = some (.lst (ys.map V.int)) := upd_same
      have hw3 := hw2.keep g3 (by simp) (by simp) (by simp)
      have g03 := g2.trans g3
      have yn : ys.Nodup := (hp.nodup_iff).mpr k2
      have ym : ∀ r ∈ ys, ∃ p, st.seats r = some p := fun r hr => Option.isSome_iff_exists.mp ((k4 r).mp (hp.mem_iff.mp hr))
      clear hw2 g2 hs
      generalize (upd H2 l (.lst (ys.map V.int))) = H3 at *
      refine ⟨l, rfl, ⟨_, SqL.of hl3⟩, ?_⟩
      refine lc_go (walk_list (K := K) (a := l) (xs := ys.map V.int)) (fun Dn i acc H' => Gr [] H3 H' ∧ ∃ rs : List Int, rs.Sublist (ys.take i) ∧ (∀ r ∈ rs, ∃ p, st.seats r = some p ∧ p < st.many) ∧ Evs H' acc (rs.map fun r => Ev.read r st.many))
        (fun Dn nD => ⟨Gr.new nD, [], by simp, by simp, .nil⟩) (fun Dn i acc H' _ ⟨g, _⟩ => SqL.of (g.k0 hl3)) ?_ ?_
      · rintro Dn i acc x H4 H5 nD hi hD la ⟨g4, rs, r1, r2, r3⟩ ⟨e5, hx⟩
        subst e5
        rw [List.length_map] at hi
        have ey : ys[i]? = some ys[i] := List.getElem?_eq_getElem hi
        have ex : x = .int ys[i] := by
          rw [List.getElem?_map, ey] at hx
          exact (Option.some.inj hx).symm
        subst ex
        have hw4 := hw3.keep g4 (by simp) (by simp) (by simp)
        obtain ⟨p, hpp⟩ := ym ys[i] (List.getElem_mem hi)
        have hg := hw4.g_seat ys[i]
        rw [hpp] at hg
        have hts : ys.take (i + 1) = ys.take i ++ [ys[i]] := take_snoc ey
        walk_at "w"
        refine ⟨rfl, ?_⟩
        walk_at "w"
        refine ⟨_, _, rfl, hw4.g_seats, ?_⟩
        walk_at "w"
        refine ⟨_, _, rfl, hg, ?_⟩
        walk_at "w"
        refine ⟨_, _, rfl, hw4.g_many, ?_⟩
        walk_at "w"
        refine WK.w_2 (fun h => ?_) (fun h => ?_)
        · walk_at "w"
          refine ⟨_, _, rfl, hw4.g_many, ?_⟩
          walk_at "w"
          refine ⟨WK.sz, fun z nz => ?_⟩
          have gz : Gr [] H5 (upd H5 z (.tup [.str "read", .int ys[i], .int st.many])) := Gr.new nz
          have hDz := gz.k0 hD
          have gD : Gr [Dn] (upd H5 z (.tup [.str "read", .int ys[i], .int st.many])) _ := Gr.mutL (o := .lst (acc ++ [.ref z])) hDz (by simp)
          have yl : ys.length = ks.length := hp.length_eq
          refine lc_yes hDz la (by omega) ⟨(g4.trans gz).own gD nD, rs ++ [ys[i]], ?_, ?_, ?_⟩
          · rw [hts]
            exact r1.append (List.Sublist.refl _)
          · intro r hr
            rcases List.mem_append.mp hr with z' | z'
            · exact r2 r z'
            · rw [List.mem_singleton] at z'
              rw [z']
              exact ⟨p, hpp, h⟩
          · rw [List.map_append]
            exact pr_append ((r3.gr gz).gr gD) (.cons ⟨z, rfl, gD.tup _ _ upd_same⟩ .nil)
        · refine lc_no hD la ⟨g4, rs, ?_, r2, r3⟩
          rw [hts]
          exact r1.trans (List.sublist_append_left _ _)
      · rintro Dn acc H5 nD hD la ⟨g5, rs, r1, r2, r3⟩
        rw [List.length_map, List.take_length] at *
        have rn : rs.Nodup := r1.nodup yn
        have yl : ys.length = ks.length := hp.length_eq
        have rl : rs.length ≤ ys.length := r1.length_le
        have al := r3.length
        rw [List.length_map] at al
        walk_at "w"
        refine ⟨Dn, acc, rfl, .inl ⟨SqL.of hD, fun z nz => ?_⟩⟩
        have gz : Gr [] H5 (upd H5 z (.tup acc)) := Gr.new nz
        have g0z := (g03.trans g5).trans gz
        have az := g0z.tup _ _ ha
        have fin : ∀ es' : List Ev, es' = es ++ rs.map (fun r => Ev.read r st.many) → Valid .nil es' ∧ (∀ e ∈ es', e.ok) ∧ es'.length ≤ 2 * es.length := fun es' e => by
          subst e
          refine ⟨valid_append.mpr ⟨hva, by rw [hst]; exact valid_reads rn r2⟩, fun e he => ?_, ?_⟩
          · rcases List.mem_append.mp he with z | z
            · exact hok e z
            · obtain ⟨r, hr, rfl⟩ := List.mem_map.mp z
              obtain ⟨p, hp, hlt⟩ := r2 r hr
              have p0 := gd.s r p hp
              exact ⟨gd.k r p hp, by omega⟩
          · rw [List.length_append, List.length_map]
            omega
        have hxl : xs.length ≤ 60 := by rw [hev.length]; exact hlen
        refine ⟨a, z, xs, acc, rfl, rfl, SqT.of az, SqT.of upd_same, WK.sz (by omega), fun e => ?_, fun e1 e2 => ?_, fun e1 e2 y ny => ?_⟩
        · subst e
          cases hev
          obtain ⟨f1, f2, f3⟩ := fin _ rfl
          exact q _ _ _ g0z ⟨z, acc, rfl, upd_same, r3.gr gz⟩ f1 f2 f3
        · subst e2
          have : rs = [] := List.length_eq_zero_iff.mp (by simpa using al.symm)
          subst this
          exact q _ _ es g0z ⟨a, xs, rfl, az, hev.gr g0z⟩ hva hok (by omega)
        · obtain ⟨f1, f2, f3⟩ := fin _ rfl
          have gy : Gr [] (upd H5 z (.tup acc)) (upd (upd H5 z (.tup acc)) y (.tup (xs ++ acc))) := Gr.new ny
          exact q _ _ _ (g0z.trans gy) ⟨y, _, rfl, upd_same, Evs.gr (pr_append (hev.gr g0z) (r3.gr gz)) gy⟩ f1 f2 f3
theorem use_ended {H : Hp} {Q : VK} {E : XK} {v : V} {es : List Ev} (h : IsTT H v es) (hv : Valid .nil es) (ho : ∀ e ∈ es, e.ok) (hl : es.length ≤ 60) (k : ∀ (v' : V) (H' : Hp) (es' : List Ev), Gr [] H H' → IsTT H' v' es' → Valid .nil es' → (∀ e ∈ es', e.ok) → es'.length ≤ 2 * es.length → Q v' H') : spEnded [v] H Q E := ⟨v, es, rfl, h, hv, ho, hl, k⟩

end
end PK
namespace PK
open PySem L2
section
variable {P : Program} {w : World} {K : PySem.W.Frag} {mg : Str → Option Value} {base : Heap}
def Ev.adds (e : Ev) : Bool := match e with
  | .put _ _ => true
  | .drop _ => true
  | _ => false
theorem many_len : ∀ (es : List Ev) (s : WS), (s.run es).many = s.many + (es.filter Ev.adds).length
  | [], s => by simp [WS.run]
  | e :: es, s => by
    have h := many_len es (s.step e)
    show ((s.step e).run es).many = _
    rw [h, List.filter_cons]
    cases e <;> simp only [Ev.adds, WS.step, WS.seat, if_true, if_false, List.length_cons, Bool.false_eq_true] <;> omega
theorem w_slP {H : Hp} {Q : VK} {a : Addr} {xs : List V} {t : Nat} (h : H a = some (.tup xs)) (ht : t ≤ xs.length) (k : ∀ (p : Addr) (H' : Hp), Gr [] H H' → H' p = some (.tup (xs.take t)) → Q (.ref p) H') : rSlA K (.ref a) none (some (t : Int)) H Q := by
  have e : cutV xs none (some (t : Int)) = xs.take t := by
    unfold cutV
    rw [HT.sIx_nat]
    show (xs.drop 0).take (min t xs.length - 0) = _
    rw [List.drop_zero, Nat.sub_zero, Nat.min_eq_left ht]
  refine ⟨a, xs, rfl, SqT.of h, fun w => k a H (Gr.refl _ _) ?_, fun _ p np => k p _ (Gr.new np) (by rw [← e]; exact upd_same)⟩
  have w2 := w.2
  rw [HT.sIx_nat, Nat.min_eq_left ht] at w2
  rw [w2, List.take_length]
  exact h
def spMany : Sp := fun vs H Q _ => ∃ (v : V) (es : List Ev) (t : Nat), vs = [v, .int t] ∧ IsTT H v es ∧ t ≤ es.length ∧ es.length ≤ 100 ∧ ∀ H', Gr [] H H' → Q (.int (WS.nil.run (es.take t)).many) H'
abbrev s_law_many : Stmt := topS 19
abbrev N_law_many : List Str := ["_law_table_here", "_law_spot", "_law_event_so"]
abbrev ps_law_many : List Str := ["_law_table_here", "_law_spot"]
theorem sc_law_many : FnScope N_law_many ps_law_many (defScope s_law_many) := ⟨rfl, rfl, rfl, by decide +kernel, rfl, by decide +kernel, by decide +kernel⟩
theorem has_many (D : Df K mg "_law_many" s_law_many ps_law_many) (T : Txt mg) : Has P w K mg base 1 "_law_many" ps_law_many spMany := Has.mk' D fun f fd F => by
  refine F.ok sc_law_many (fun vs H Q E h => ?_) (fun cdv A outer s H vs Q E hr h => ?_)
  · obtain ⟨v, es, t, rfl, _⟩ := h
    rfl
  · obtain ⟨_, es, t, rfl, ⟨a, ts, rfl, ha, hev⟩, ht, hlen, q⟩ := h
    refine ⟨_, (pss_one (ps_ret (pe_callB (call_len_seqK (K := K)) (by rfl) T.m_len (by decide +kernel) (pa_cons (pe_lc (own := [("_law_event_so", 2)]) (g := gName 2)  rfl sc_law_many.nd (pi_tup (pe_slice (sl_tupAK (K := K)) (pv 0) po_none (po_some (pv 1)))) (blkOk_by (own := [("_law_event_so", 2)]) (N := N_law_many) (sc := defScope s_law_many) (by decide +kernel)) (fun _ _ _ _ _ => pg_name (i := 2) sc_law_many.nd rfl (Or.inl rfl)) (fun _ _ _ _ _ => pts_one (pt_cmpR (op_in_seqK (K := K)) (pe_ix (ix_tupK (K := K)) (pv 2) pe_int (fun _ _ => rfl)) (pe_tup (pa_cons pe_str (pa_cons pe_str pa_nil))) (by rfl))) (fun _ _ _ _ _ => (pv 2))) pa_nil)))), ?_⟩
    walk_at "w"
    have tl : ts.length = es.length := hev.length
    refine w_slP ha (by omega) fun b H1 g1 hb => ?_
    have ev1 : Evs H1 (ts.take t) (es.take t) := by
      have z := hev.gr g1
      have go : ∀ (n : Nat) {a : List V} {b : List Ev}, Evs H1 a b → Evs H1 (a.take n) (b.take n) := by
        intro n
        induction n with
        | zero => exact fun _ => .nil
        | succ n ih =>
          intro a b h
          cases h with
          | nil => exact .nil
          | cons h1 h2 => exact .cons h1 (ih h2)
      exact go t z
    refine ⟨b, rfl, ⟨_, SqT.of hb⟩, ?_⟩
    have l1 : (ts.take t).length = (es.take t).length := ev1.length
    refine lc_go (walk_tup (K := K) (a := b) (xs := ts.take t)) (fun S j acc H' => Gr [] H1 H' ∧ acc.length = (((es.take t).take j).filter Ev.adds).length) (fun S nS => ⟨Gr.new nS, rfl⟩) (fun S j acc H' _ ⟨g, _⟩ => SqT.of (g.tup _ _ hb)) ?_ ?_
    · rintro S j acc x H2 H3 nS hj hS la ⟨g2, hk⟩ ⟨rfl, e1⟩
      have jl : j < 100 := by
        have z := (List.getElem?_eq_some_iff.mp e1).1
        rw [List.length_take] at z
        omega
      obtain ⟨e, he, hep⟩ := pr_get ev1 e1
      obtain ⟨c, rfl, hc⟩ := hep.gr g2
      have kt : (((es.take t).take (j + 1)).filter Ev.adds).length = (((es.take t).take j).filter Ev.adds).length + (if e.adds = true then 1 else 0) := by
        rw [take_snoc he, List.filter_append, List.length_append]
        congr 1
        cases h : e.adds <;> simp [List.filter_cons, h]
      walk_at "w"
      refine ⟨rfl, ?_⟩
      walk_at "w"
      refine WK.w_ixT hc e.at0 ?_
      walk_at "w"
      refine ⟨WK.sz, fun z nz => ?_⟩
      refine WK.w_inT upd_same rfl rfl ?_
      walk_at "w"
      have g3 : Gr [] H3 (upd H3 z (.tup [.str "put", .str "drop"])) := Gr.new nz
      have hS4 := g3.k0 hS
      have g23 := g2.trans g3
      generalize (upd H3 z (.tup [.str "put", .str "drop"])) = H4 at *
      cases e <;> dsimp only [Ev.word]
      case put k v =>
        refine WK.w_ifP (by decide +kernel) ?_
        walk_at "w"
        exact lc_yes hS4 la (by omega) ⟨g23.own (Gr.mutL hS4 (by simp)) nS, by rw [kt, List.length_append, hk]; rfl⟩
      case drop k =>
        refine WK.w_ifP (by decide +kernel) ?_
        walk_at "w"
        exact lc_yes hS4 la (by omega) ⟨g23.own (Gr.mutL hS4 (by simp)) nS, by rw [kt, List.length_append, hk]; rfl⟩
      all_goals exact WK.w_ifN (by decide +kernel) (lc_no hS4 la ⟨g23, by rw [kt, hk]; rfl⟩)
    · rintro S acc H2 nS hS la ⟨g2, hk⟩
      rw [l1, List.take_length] at hk
      walk_at "w"
      have z : (WS.nil.run (es.take t)).many = (acc.length : Int) := by
        rw [many_len, hk]
        show (0 : Int) + _ = _
        omega
      rw [← z]
      exact q _ (g1.trans g2)

end
end PK
namespace PK
open PySem L2
section
variable {P : Program} {w : World} {K : PySem.W.Frag} {mg : Str → Option Value} {base : Heap}
structure BsOk (es : List Ev) (bs : List (Int × Int)) (t : Nat) : Prop where
  up : bs.Pairwise fun x y => x.1 ≤ y.1
  at_ : ∀ b ∈ bs, 0 ≤ b.1 ∧ b.1 ≤ t ∧ b.1 ≤ es.length ∧ 0 ≤ b.2 ∧ b.2 ≤ (WS.nil.run (es.take b.1.toNat)).many
theorem BsOk.up' {es : List Ev} {bs : List (Int × Int)} {t u : Nat} (h : BsOk es bs t) (l : t ≤ u) : BsOk es bs u := ⟨h.up, fun b hb => by
  obtain ⟨h1, h2, h3⟩ := h.at_ b hb
  exact ⟨h1, by omega, h3⟩⟩
theorem BsOk.add {es : List Ev} {bs : List (Int × Int)} {t : Nat} (h : BsOk es bs t) (tl : t ≤ es.length) {r : Int} (r0 : 0 ≤ r) (r1 : r ≤ (WS.nil.run (es.take t)).many) : BsOk es (bs ++ [((t : Int), r)]) t := by
  refine ⟨List.pairwise_append.mpr ⟨h.up, List.pairwise_singleton _ _, fun x hx y hy => ?_⟩, fun b hb => ?_⟩
  · rw [List.mem_singleton.mp hy]
    exact (h.at_ x hx).2.1
  · rcases List.mem_append.mp hb with z | z
    · exact h.at_ b z
    · rw [List.mem_singleton.mp z]
      exact ⟨by show (0 : Int) ≤ (t : Int); omega, Int.le_refl _, by show (t : Int) ≤ _; omega, r0, r1⟩
def spBroom (K : PySem.W.Frag) : Sp := fun vs H Q _ => ∃ (b : Addr) (v : V) (es : List Ev) (m : Nat), vs = [.ref b, v] ∧ Bx H b (m + 320) ∧ IsTT H v es ∧ es.length ≤ 100 ∧
  ∀ (a : Addr) (xs : List V) (bs : List (Int × Int)) (H' : Hp), Gr [b] H H' → Bx H' b m → H' a = some (.tup xs) → Tps H' xs (bs.map fun x => [.int x.1, .int x.2]) → SwOk es bs → bs.length ≤ 300 → Q (.ref a) H'
abbrev s_law_some_broom : Stmt := topS 28
abbrev N_law_some_broom : List Str := ["_law_box_here", "_law_table_here", "_law_found", "_law_spot", "_law_turn"]
abbrev ps_law_some_broom : List Str := ["_law_box_here", "_law_table_here"]
theorem sc_law_some_broom : FnScope N_law_some_broom ps_law_some_broom (defScope s_law_some_broom) := ⟨rfl, rfl, rfl, by decide +kernel, rfl, by decide +kernel, by decide +kernel⟩
theorem has_broom (D : Df K mg "_law_some_broom" s_law_some_broom ps_law_some_broom) (T : Txt mg) (G_law_take : Has P w K mg base 1 "_law_take" ps_law_take spTake) (G_law_of : Has P w K mg base 2 "_law_of" ps_law_of spOf) (G_law_many : Has P w K mg base 1 "_law_many" ps_law_many spMany) :
    Has P w K mg base 3 "_law_some_broom" ps_law_some_broom (spBroom K) := Has.mk' D fun f fd F => by
  refine F.ok sc_law_some_broom (fun vs H Q E h => ?_) (fun cdv A outer s H vs Q E hr h => ?_)
  · obtain ⟨b, v, es, m, rfl, _⟩ := h
    rfl
  · obtain ⟨b, _, es, m, rfl, hb, ⟨a, ts, rfl, ha, hev⟩, hlen, q⟩ := h
    refine ⟨_, (pss_cons (ps_set (i := 2) sc_law_some_broom.nd rfl (Or.inl rfl) (pe_lst pa_nil))
(pss_cons (ps_for PassesOwn.never rfl (pi_range1 (by rfl) T.m_range (pa_cons (pe_op op_add (pe_callB (call_len_seqK (K := K)) (by rfl) T.m_len (by decide +kernel) (pa_cons (pv 1) pa_nil)) pe_int) pa_nil)) (pg_name (i := 3) sc_law_some_broom.nd rfl (Or.inl rfl))
  (pss_one (ps_for PassesOwn.never rfl (pi_range1 (by rfl) T.m_range (pa_cons (pe_callH G_law_of (hr.mono (by decide)) (by rfl) (pa_cons (pv 0) (pa_cons (pe_lst (pa_cons pe_int (pa_cons pe_int (pa_cons pe_int (pa_cons pe_int (pa_cons pe_int pa_nil)))))) pa_nil))) pa_nil)) (pg_name (i := 4) sc_law_some_broom.nd rfl (Or.inl rfl))
    (pss_one (ps_expr (pe_bm PySem.F.plainAttrs_list PySem.F.slot_list_append PySem.F.type_list_append mt_append (pv 2) (pa_cons (pe_tup (pa_cons (pv 3) (pa_cons (pe_callH G_law_take (hr.mono (by decide)) (by rfl) (pa_cons (pv 0) (pa_cons (pe_op op_add (pe_callH G_law_many (hr.mono (by decide)) (by rfl) (pa_cons (pv 1) (pa_cons (pv 3) pa_nil))) pe_int) pa_nil))) pa_nil))) pa_nil)))))))
(pss_one (ps_ret (pe_callTy (call_tuple_ofK (K := K)) (by rfl) T.m_tuple (by decide +kernel) (pa_cons (pv 2) pa_nil)))))), ?_⟩
    have tl : ts.length = es.length := hev.length
    walk_at "w"
    refine ⟨WK.sz, fun L nL => ?_⟩
    have g1 : Gr [] H (upd H L (.lst [])) := Gr.new nL
    have hL1 : (upd H L (.lst [])) L = some (.lst []) := upd_same
    have hb1 := hb.keep g1 (by simp)
    have ha1 := g1.tup _ _ ha
    have nLb : L ≠ b := fun e => by
      obtain ⟨_, z⟩ := hb.lst
      rw [← e, nL] at z
      cases z
    have hev1 := hev.gr g1
    generalize (upd H L (.lst [])) = H1 at *
    walk_at "w"
    refine ⟨a, ts, rfl, .inr (SqT.of ha1), ?_⟩
    rw [tl]
    walk_at "w"
    refine ⟨by omega, by omega, ?_⟩
    have mn : ∀ t, 0 ≤ (WS.nil.run (es.take t)).many ∧ (WS.nil.run (es.take t)).many ≤ 100 := fun t => by
      rw [many_len]
      have z : ((es.take t).filter Ev.adds).length ≤ es.length := Nat.le_trans (List.length_filter_le _ _) (by rw [List.length_take]; omega)
      show (0 : Int) ≤ 0 + _ ∧ (0 : Int) + _ ≤ 100
      omega
    refine lp_range (fun t σ' H' => ∃ xs bs y3 y4, σ' = [some (.ref b), some (.ref a), some (.ref L), y3, y4] ∧ Gr [b, L] H1 H' ∧ Bx H' b (m + 320 - 3 * t) ∧ H' L = some (.lst xs) ∧ Tps H' xs (bs.map fun x => [.int x.1, .int x.2]) ∧ BsOk es bs t ∧ bs.length ≤ 2 * t)
      ⟨[], [], none, none, rfl, Gr.refl _ _, hb1, hL1, .nil, ⟨.nil, by simp⟩, by simp⟩ ?_ ?_
    · rintro t _ H2 hti ⟨xs, bs, y3, y4, rfl, g2, hb2, hL2, tp2, ok2, l2⟩
      have t100 : t ≤ es.length := by omega
      rw [show (0 + (t : Int)) = t from by omega]
      walk_at "w"
      refine ⟨WK.sz, fun c nc => ?_⟩
      walk_at "w"
      have g3 : Gr [] H2 (upd H2 c (.lst [.int 0, .int 0, .int 1, .int 1, .int 2])) := Gr.new nc
      have hc3 : (upd H2 c (.lst [.int 0, .int 0, .int 1, .int 1, .int 2])) c = some (.lst [.int 0, .int 0, .int 1, .int 1, .int 2]) := upd_same
      have ncb : c ≠ b := fun e => by
        obtain ⟨_, z⟩ := hb2.lst
        rw [← e, nc] at z
        cases z
      have hb3 := hb2.keep g3 (by simp)
      have hL3 := g3.k0 hL2
      have tp3 := tp2.gr g3
      have g03 := g2.trans (g3.mono (by simp))
      generalize (upd H2 c (.lst [.int 0, .int 0, .int 1, .int 1, .int 2])) = H3 at *
      refine ⟨b, c, _, m + 320 - 3 * t - 1, rfl, hb3.mono (by omega), hc3, ncb, by simp, by simp, fun j x H4 hx g4 hb4 => ?_⟩
      obtain ⟨k, rfl, k2⟩ : ∃ k : Nat, x = .int (k : Int) ∧ k ≤ 2 := by
        match j, hx with
        | 0, hx => exact ⟨0, (Option.some.inj hx).symm, by omega⟩
        | 1, hx => exact ⟨0, (Option.some.inj hx).symm, by omega⟩
        | 2, hx => exact ⟨1, (Option.some.inj hx).symm, by omega⟩
        | 3, hx => exact ⟨1, (Option.some.inj hx).symm, by omega⟩
        | 4, hx => exact ⟨2, (Option.some.inj hx).symm, by omega⟩
        | j + 5, hx => simp at hx
      have hL4 := g4.k1 hL3 nLb
      have tp4 := tp3.gr g4
      have g04 := g03.trans (g4.mono (by simp))
      walk_at "w"
      refine ⟨by omega, by omega, ?_⟩
      rw [Int.toNat_natCast]
      refine lp_range (fun i σ' H' => ∃ xs bs y4, σ' = [some (.ref b), some (.ref a), some (.ref L), some (.int t), y4] ∧ Gr [b, L] H1 H' ∧ Bx H' b (m + 320 - 3 * t - 1 - i) ∧ H' L = some (.lst xs) ∧ Tps H' xs (bs.map fun x => [.int x.1, .int x.2]) ∧ BsOk es bs t ∧ bs.length ≤ 2 * t + i)
        ⟨xs, bs, y4, rfl, g04, hb4, hL4, tp4, ok2, l2⟩ ?_ ?_
      · rintro i _ H5 hik ⟨xs5, bs5, y5, rfl, g5, hb5, hL5, tp5, ok5, l5⟩
        have x5 : xs5.length ≤ 1000 := by rw [tp5.length, List.length_map]; omega
        walk_at "w"
        refine ⟨.inl ⟨rfl, _, SqL.of hL5⟩, ?_⟩
        walk_at "w"
        refine ⟨.ref a, es, t, rfl, ⟨a, ts, rfl, g5.tup _ _ ha1, hev1.gr g5⟩, t100, hlen, fun H6 g6 => ?_⟩
        obtain ⟨mn0, mn1⟩ := mn t
        have hb6 := hb5.keep g6 (by simp)
        have hL6 := g6.k0 hL5
        have tp6 := tp5.gr g6
        have g06 := g5.trans (g6.mono (by simp))
        walk_at "w"
        refine use_take (n := m + 320 - 3 * t - 1 - i - 1) (hb6.mono (by omega)) (by omega) (by omega) (fun r H7 r0 r1 g7 hb7 => ?_)
        have hL7 := g7.k1 hL6 nLb
        have tp7 := tp6.gr g7
        have g07 := g06.trans (g7.mono (by simp))
        walk_at "w"
        refine ⟨WK.sz, fun q nq => ?_⟩
        walk_at "w"
        have g8 : Gr [] H7 (upd H7 q (.tup [.int t, .int r])) := Gr.new nq
        have eq8 : (upd H7 q (.tup [.int t, .int r])) q = some (.tup [.int t, .int r]) := upd_same
        have hb8 := hb7.keep g8 (by simp)
        have hL8 := g8.k0 hL7
        have tp8 := tp7.gr g8
        have g08 := g07.trans (g8.mono (by simp))
        generalize (upd H7 q (.tup [.int t, .int r])) = H8 at *
        refine WK.w_app hL8 (WK.sz' (by omega)) ?_
        have g9 : Gr [L] H8 (upd H8 L (.lst (xs5 ++ [.ref q]))) := Gr.mutL hL8 (by simp)
        refine ⟨xs5 ++ [.ref q], bs5 ++ [((t : Int), r)], _, rfl, g08.trans (g9.mono (by simp)), (hb8.keep g9 (by simpa using nLb.symm)).mono (by omega), upd_same, ?_, ok5.add t100 r0 (by omega), by rw [List.length_append, List.length_singleton]; omega⟩
        rw [List.map_append]
        exact pr_append (tp8.gr g9) (.cons ⟨q, rfl, g9.tup _ _ eq8⟩ .nil)
      · rintro σ2 H5 ⟨xs5, bs5, y5, rfl, g5, hb5, hL5, tp5, ok5, l5⟩
        exact ⟨xs5, bs5, _, _, rfl, g5, hb5.mono (by omega), hL5, tp5, ok5.up' (by omega), by omega⟩
    · rintro σ2 H2 ⟨xs, bs, y3, y4, rfl, g2, hb2, hL2, tp2, ok2, l2⟩
      walk_at "w"
      refine ⟨L, xs, rfl, .inl ⟨SqL.of hL2, fun l nl => ?_⟩⟩
      have g3 : Gr [] H2 (upd H2 l (.tup xs)) := Gr.new nl
      refine q l xs bs _ ?_ ((hb2.keep g3 (by simp)).mono (by omega)) upd_same (tp2.gr g3) ⟨ok2.up, fun x hx => ?_⟩ (by omega)
      · exact (g1.mono (by simp)).own ((g2.mono (by intro z hz; simpa [or_comm] using hz)).trans (g3.mono (by simp))) nL
      · obtain ⟨o1, _, o3⟩ := ok2.at_ x hx
        exact ⟨o1, o3⟩

end
end PK
namespace PK
open PySem L2
section
variable {P : Program} {w : World} {K : PySem.W.Frag} {mg : Str → Option Value} {base : Heap}
def Ev.who : Ev → List Int
  | .join r => [r]
  | .load r _ => [r]
  | _ => []
/-- who joins or loads -/
def folk (es : List Ev) : List Int := es.flatMap Ev.who
def seven : List Int := [0, 1, 2, 3, 9, 10, 100]
/-- the ascending row of who is in it -/
def Row (es : List Ev) (ns : List Int) : Prop := ns.Pairwise (· < ·) ∧ ∀ k, k ∈ ns ↔ k ∈ folk es
theorem folk_snoc (es : List Ev) (e : Ev) : folk (es ++ [e]) = folk es ++ e.who := by
  unfold folk
  rw [List.flatMap_append]
  simp
theorem row_one : ∀ {a b : List Int}, a.Pairwise (· < ·) → b.Pairwise (· < ·) → (∀ k, k ∈ a ↔ k ∈ b) → a = b
  | [], [], _, _, _ => rfl
  | [], y :: b, _, _, h => absurd ((h y).mpr (by simp)) (by simp)
  | x :: a, [], _, _, h => absurd ((h x).mp (by simp)) (by simp)
  | x :: a, y :: b, ha, hb, h => by
    rw [List.pairwise_cons] at ha hb
    have e : x = y := by
      have p := (h x).mp (by simp)
      have q := (h y).mpr (by simp)
      rw [List.mem_cons] at p q
      rcases p with p | p
      · exact p
      · rcases q with q | q
        · exact q.symm
        · have := ha.1 _ q
          have := hb.1 _ p
          omega
    subst e
    rw [row_one ha.2 hb.2 fun k => ?_]
    have z := h k
    rw [List.mem_cons, List.mem_cons] at z
    constructor
    · intro hk
      rcases z.mp (.inr hk) with e | e
      · have := ha.1 _ hk
        omega
      · exact e
    · intro hk
      rcases z.mpr (.inr hk) with e | e
      · have := hb.1 _ hk
        omega
      · exact e
theorem Row.one {es : List Ev} {a b : List Int} (h : Row es a) (h' : Row es b) : a = b := row_one h.1 h'.1 fun k => (h.2 k).trans (h'.2 k).symm
theorem nodup_le : ∀ {a b : List Int}, a.Nodup → (∀ k ∈ a, k ∈ b) → a.length ≤ b.length
  | [], _, _, _ => Nat.zero_le _
  | x :: a, b, h, s => by
    rw [List.nodup_cons] at h
    have xb := s x (by simp)
    have z := nodup_le (b := b.erase x) h.2 fun k hk => (List.mem_erase_of_ne (fun (e : k = x) => h.1 (by rw [← e]; exact hk))).mpr (s k (by simp [hk]))
    rw [List.length_erase_of_mem xb] at z
    have := List.length_pos_of_mem xb
    rw [List.length_cons]
    omega
theorem Row.short {es : List Ev} {ns : List Int} (h : Row es ns) (h7 : ∀ k ∈ folk es, k ∈ seven) : ns.length ≤ 7 :=
  nodup_le (h.1.imp (fun z e => by omega)) fun k hk => h7 k ((h.2 k).mp hk)
def Ev.kept : Ev → Nat
  | .save _ => 1
  | _ => 0
/-- how many copies there are -/
def kept (es : List Ev) : Nat := (es.map Ev.kept).sum
theorem kept_le : ∀ es : List Ev, kept es ≤ es.length
  | [] => Nat.le_refl _
  | e :: es => by
    have h := kept_le es
    have h1 : e.kept ≤ 1 := by cases e <;> simp [Ev.kept]
    show e.kept + kept es ≤ es.length + 1
    omega
theorem kept_snoc (es : List Ev) (e : Ev) : kept (es ++ [e]) = kept es + e.kept := by
  unfold kept
  simp
def copyV (n : Nat) : List (List V) := (List.range n).map fun k => [.str "copy", .int (k : Nat)]
def manV (ns : List Int) : List (List V) := ns.map fun r => [.str "reader", .int r]
theorem folk_seven : ∀ {es : List Ev}, (∀ e ∈ es, e.ok) → ∀ k ∈ folk es, k ∈ seven
  | es, h, k, hk => by
    obtain ⟨e, he, hk⟩ := List.mem_flatMap.mp hk
    have q := h e he
    cases e with
    | join r =>
      rw [List.mem_singleton.mp hk]
      have q : 0 ≤ r ∧ r < 4 := q
      have z : r = 0 ∨ r = 1 ∨ r = 2 ∨ r = 3 := by omega
      rcases z with z | z | z | z <;> subst z <;> decide
    | load r c =>
      rw [List.mem_singleton.mp hk]
      have q : (0 ≤ r ∧ r < 4) ∧ 0 ≤ c := q
      have z : r = 0 ∨ r = 1 ∨ r = 2 ∨ r = 3 := by omega
      rcases z with z | z | z | z <;> subst z <;> decide
    | _ => cases hk
def allG (k : Nat) (ns : List Int) : List (Str × Int) := ((List.range k).map fun i => (("copy" : Str), ((i : Nat) : Int))) ++ ns.map fun r => (("reader" : Str), r)
theorem allG_rows (k : Nat) (ns : List Int) : (allG k ns).map gdV = copyV k ++ manV ns := by
  unfold allG copyV manV
  rw [List.map_append, List.map_map, List.map_map]
  rfl
/-- a guard as it is drawn -/
structure GdO (g : Str × Int) : Prop where
  n : 0 ≤ g.2
  w : g.1 = "copy" ∨ g.1 = "reader"

end
end PK
namespace PK
open PySem L2
section
variable {P : Program} {w : World} {K : PySem.W.Frag} {mg : Str → Option Value} {base : Heap}
abbrev s_law_lots : Stmt := topS 29
abbrev N_law_lots : List Str := ["_law_box_here", "_law_most", "_law_names", "_law_lots_here", "_law_word", "_law_signs", "_law_some", "_law_sign", "_law_own_so"]
abbrev ps_law_lots : List Str := ["_law_box_here", "_law_most", "_law_names"]
theorem sc_law_lots : FnScope N_law_lots ps_law_lots (defScope s_law_lots) := ⟨rfl, rfl, rfl, by decide +kernel, rfl, by decide +kernel, by decide +kernel⟩
def spLots : Sp := fun vs H Q _ => ∃ (b nl : Addr) (m : Nat) (most : Int) (names : List Str), vs = [.ref b, .int most, .ref nl] ∧
  Bx H b (m + 5 * names.length) ∧ H nl = some (.lst (names.map V.str)) ∧ nl ≠ b ∧ names.length ≤ 100 ∧ (∀ k ∈ names, KeyOk k) ∧ most ≤ 1000 ∧
  ∀ (l : Addr) (rs : List Addr) (ess : List (List Ev)) (H' : Hp), Gr [b] H H' → Bx H' b m → LotsAt H' l rs ess → H l = none → (∀ r ∈ rs, H r = none) → ((total ess : Nat) : Int) ≤ max most 0 → (∀ es ∈ ess, es ≠ []) → Q (.ref l) H'
structure LoAt (H0 H : Hp) (b l : Addr) (m : Nat) (most : Int) (i : Nat) (rs : List Addr) (ess : List (List Ev)) : Prop where
  g : Gr [b] H0 H
  bx : Bx H b m
  lo : LotsAt H l rs ess
  fr : ∀ r ∈ rs, H0 r = none
  to : ((total ess : Nat) : Int) ≤ max most 0
  ne : ∀ es ∈ ess, es ≠ []
  len : ess.length ≤ i
theorem has_lots (D : Df K mg "_law_lots" s_law_lots ps_law_lots) (T : Txt mg) (G_law_take : Has P w K mg base 1 "_law_take" ps_law_take spTake) :
    Has P w K mg base 2 "_law_lots" ps_law_lots spLots := Has.mk' D fun f fd F => by
  refine F.ok sc_law_lots (fun vs H Q E h => ?_) (fun cdv A outer s H vs Q E hr h => ?_)
  · obtain ⟨b, nl, m, most, names, rfl, _⟩ := h
    rfl
  · obtain ⟨b, nl, m, most, names, rfl, hb, hnl, nnb, nlen, hkeys, hmost, q⟩ := h
    refine ⟨_, (pss_cons (ps_set (i := 3) sc_law_lots.nd rfl (Or.inl rfl) (pe_lst pa_nil))
(pss_cons (ps_for PassesOwn.never rfl (pi_list (pv 2)) (pg_name (i := 4) sc_law_lots.nd rfl (Or.inr rfl))
  (pss_cons (ps_set (i := 5) sc_law_lots.nd rfl (Or.inl rfl) (pe_ix (ix_listK (K := K)) (pe_lst (pa_cons pe_str (pa_cons pe_str (pa_cons pe_str (pa_cons pe_str (pa_cons pe_str (pa_cons pe_str pa_nil))))))) (pe_callH G_law_take (hr.mono (by decide)) (by rfl) (pa_cons (pv 0) (pa_cons pe_int pa_nil))) (fun _ _ => rfl)))
  (pss_cons (ps_setLc (i := 6) (own := [("_law_sign", 7)]) (g := gName 7)  rfl sc_law_lots.nd rfl rfl (sw_true rfl rfl rfl (by decide +kernel)) (pi_str (pv 5)) (blkOk_by (own := [("_law_sign", 7)]) (N := N_law_lots) (sc := defScope s_law_lots) (by decide +kernel)) (fun _ _ _ _ _ => pg_name (i := 7) sc_law_lots.nd rfl (Or.inl rfl)) (fun _ _ _ _ _ => pts_nil) (fun _ _ _ _ _ => (pe_ifExp (pt_cmpR op_eq (pv 7) pe_str (nomark _)) (pe_tup (pa_cons pe_str (pa_cons (pv 4) (pa_cons (pe_callH G_law_take (hr.mono (by decide)) (by rfl) (pa_cons (pv 0) (pa_cons pe_int pa_nil))) pa_nil)))) (pe_tup (pa_cons pe_str (pa_cons (pv 4) pa_nil))))))
  (pss_one (ps_if (pt_cmpR op_le (pe_op op_add (pe_callB (cr_sumK (K := K) rfl) (by rfl) T.m_sum (by decide +kernel) (pa_cons (pe_lc (own := [("_law_own_so", 8)]) (g := gName 8)  rfl sc_law_lots.nd (pi_list (pv 3)) (blkOk_by (own := [("_law_own_so", 8)]) (N := N_law_lots) (sc := defScope s_law_lots) (by decide +kernel)) (fun _ _ _ _ _ => pg_name (i := 8) sc_law_lots.nd rfl (Or.inl rfl)) (fun _ _ _ _ _ => pts_nil) (fun _ _ _ _ _ => (pe_callB (call_len_seqK (K := K)) (by rfl) T.m_len (by decide +kernel) (pa_cons (pv 8) pa_nil)))) pa_nil)) (pe_callB (call_len_seqK (K := K)) (by rfl) T.m_len (by decide +kernel) (pa_cons (pv 6) pa_nil))) (pv 1) (nomark _))
    (pss_one (ps_expr (pe_bm PySem.F.plainAttrs_list PySem.F.slot_list_append PySem.F.type_list_append mt_append (pv 3) (pa_cons (pv 6) pa_nil))))
    pss_nil)))))
(pss_one (ps_ret (pv 3))))), ?_⟩
    walk_at "w"
    refine ⟨WK.sz, fun L nL => ?_⟩
    walk_at "w"
    obtain ⟨bl, hbl⟩ := hb.lst
    have nbL : b ≠ L := ne_of_none hbl nL
    have nnL : nl ≠ L := ne_of_none hnl nL
    have g0 : Gr [] H (upd H L (.lst [])) := Gr.new nL
    have hb0 := hb.keep g0 (by simp)
    have hn0 := g0.k0 hnl
    have l0 : (upd H L (.lst [])) L = some (.lst []) := upd_same
    generalize (upd H L (.lst [])) = H0 at *
    refine ⟨⟨_, SqL.of hn0⟩, lp_list (xs := names.map V.str) (fun i σ' H' => ∃ rs ess y4 y5 y6, σ' = [some (.ref b), some (.int most), some (.ref nl), some (.ref L), y4, y5, y6, none, none] ∧ LoAt H H' b L (m + 5 * (names.length - i)) most i rs ess)
      ⟨[], [], none, none, none, rfl, g0.mono (by simp), hb0.mono (by omega), ⟨.nil, .nil, by simp, by simp, l0⟩, by simp, by show ((0 : Nat) : Int) ≤ _; omega, by simp, Nat.le_refl _⟩ (fun i σ' H' _ ⟨_, _, _, _, _, _, t⟩ => SqL.of (t.g.k1 hnl nnb)) ?_ ?_⟩
    · rintro i x _ H2 hx ⟨rs, ess, y4, y5, y6, rfl, t⟩
      have hi : i < names.length := by
        have z := (List.getElem?_eq_some_iff.mp hx).1
        rw [List.length_map] at z
        exact z
      obtain ⟨ky, hky, rfl⟩ : ∃ ky, ky ∈ names ∧ x = V.str ky := by
        rw [List.getElem?_map, List.getElem?_eq_getElem hi] at hx
        exact ⟨_, List.getElem_mem hi, (Option.some.inj hx).symm⟩
      walk_at "w"
      refine ⟨WK.sz, fun c nc => ?_⟩
      walk_at "w"
      have g3 : Gr [] H2 (upd H2 c (.lst [.str "pd", .str "pd", .str "ppd", .str "pdpd", .str "dpd", .str "pdp"])) := Gr.new nc
      have hc3 : (upd H2 c (.lst [.str "pd", .str "pd", .str "ppd", .str "pdpd", .str "dpd", .str "pdp"])) c = some (.lst [.str "pd", .str "pd", .str "ppd", .str "pdpd", .str "dpd", .str "pdp"]) := upd_same
      have ncb : c ≠ b := fun e => by
        obtain ⟨_, z⟩ := t.bx.lst
        rw [← e, nc] at z
        cases z
      have hb3 := t.bx.keep g3 (by simp)
      have lo3 := t.lo.keep g3 (by simp) (by simp)
      have g03 := t.g.trans (g3.mono (by simp))
      generalize (upd H2 c (.lst [.str "pd", .str "pd", .str "ppd", .str "pdpd", .str "dpd", .str "pdp"])) = H3 at *
      refine use_take (n := m + 5 * (names.length - (i + 1)) + 4) (hb3.mono (by omega)) (by omega) (by omega) (fun r H4 r0 r1 g4 hb4 => ?_)
      have hc4 := g4.k1 hc3 ncb
      obtain ⟨z, hz, z1, z2⟩ : ∃ z : Str, ([.str "pd", .str "pd", .str "ppd", .str "pdpd", .str "dpd", .str "pdp"] : List V)[r.toNat]? = some (.str z) ∧ 1 ≤ z.cps.size ∧ z.cps.size ≤ 4 := by
        have e : r = 0 ∨ r = 1 ∨ r = 2 ∨ r = 3 ∨ r = 4 ∨ r = 5 := by omega
        rcases e with e | e | e | e | e | e <;> subst e <;> exact ⟨_, rfl, by decide +kernel, by decide +kernel⟩
      refine ⟨c, _, r, _, rfl, rfl, SqL.of hc4, WK.at_ofG (j := r.toNat) (by omega) hz, ?_⟩
      walk_at "w"
      have nLb : L ≠ b := nbL.symm
      have nrb : ∀ x ∈ rs, x ≠ b := fun x hx e => by
        rw [e] at hx
        rw [t.fr b hx] at hbl
        cases hbl
      have lo4 := lo3.keep g4 (by simpa using nLb) (by simpa using nrb)
      have g04 := g03.trans g4
      refine ⟨_, rfl, ?_⟩
      refine lc_go walk_str (fun Dn j acc H' => H4 Dn = none ∧ Gr [b] H4 H' ∧ Bx H' b (m + 5 * (names.length - (i + 1)) + (4 - j)) ∧ ∃ es, Evs H' acc es ∧ es.length = j ∧ ∀ e ∈ es, e.ent)
        (fun Dn nD => ⟨nD, Gr.new nD, (hb4.keep (Gr.new (M := []) nD) (by simp)).mono (by omega), [], .nil, rfl, by simp⟩) (fun _ _ _ _ _ _ => trivial) ?_ ?_
      · rintro Dn j acc x H5 H6 nD hj hD la ⟨nD4, g5, hb5, es, he5, hl5, hen⟩ ⟨rfl, ch, hch, rfl⟩
        have nDb : Dn ≠ b := fun e => by
          obtain ⟨_, z⟩ := hb4.lst
          rw [← e, nD] at z
          cases z
        walk_at "w"
        refine ⟨rfl, ?_⟩
        walk_at "w"
        refine WK.w_ifP rfl ?_
        walk_at "i"
        refine WK.w_2 (fun h => ?_) (fun h => ?_)
        · walk_at "w"
          refine use_take (n := m + 5 * (names.length - (i + 1)) + (4 - (j + 1))) (hb5.mono (by omega)) (by omega) (by omega) (fun x H7 x0 x1 g7 hb7 => ?_)
          walk_at "w"
          refine ⟨WK.sz, fun y ny => ?_⟩
          have gy : Gr [] H7 (upd H7 y (.tup [.str "put", .str ky, .int x])) := Gr.new ny
          have hDy := gy.k0 (g7.k1 hD nDb)
          have gD : Gr [Dn] (upd H7 y (.tup [.str "put", .str ky, .int x])) _ := Gr.mutL (o := .lst (acc ++ [.ref y])) hDy (by simp)
          refine lc_yes hDy la (by omega) ⟨nD4, ((g5.trans g7).trans (gy.mono (by simp))).own (gD.mono (by simp)) nD4, ?_, es ++ [.put ky x], ?_, by rw [List.length_append, hl5]; rfl, ?_⟩
          · exact (hb7.keep gy (by simp)).keep gD (by simpa using nDb.symm)
          · exact pr_append (((he5.gr g7).gr gy).gr gD) (.cons ⟨y, rfl, gD.tup _ _ upd_same⟩ .nil)
          · intro e he
            rcases List.mem_append.mp he with z | z
            · exact hen e z
            · rw [List.mem_singleton] at z
              subst z
              exact ⟨hkeys _ hky, x0, x1⟩
        · walk_at "w"
          refine ⟨WK.sz, fun y ny => ?_⟩
          have gy : Gr [] H6 (upd H6 y (.tup [.str "drop", .str ky])) := Gr.new ny
          have hDy := gy.k0 hD
          have gD : Gr [Dn] (upd H6 y (.tup [.str "drop", .str ky])) _ := Gr.mutL (o := .lst (acc ++ [.ref y])) hDy (by simp)
          refine lc_yes hDy la (by omega) ⟨nD4, (g5.trans (gy.mono (by simp))).own (gD.mono (by simp)) nD4, ?_, es ++ [.drop ky], ?_, by rw [List.length_append, hl5]; rfl, ?_⟩
          · exact ((hb5.keep gy (by simp)).keep gD (by simpa using nDb.symm)).mono (by omega)
          · exact pr_append ((he5.gr gy).gr gD) (.cons ⟨y, rfl, gD.tup _ _ upd_same⟩ .nil)
          · intro e he
            rcases List.mem_append.mp he with z | z
            · exact hen e z
            · rw [List.mem_singleton] at z
              subst z
              exact hkeys _ hky
      · rintro Dn acc H5 nD hD la ⟨-, g5, hb5, es, he5, hl5, hen⟩
        have nDb : Dn ≠ b := fun e => by
          obtain ⟨_, z⟩ := hb4.lst
          rw [← e, nD] at z
          cases z
        have nDL : Dn ≠ L := (ne_of_none lo4.l nD).symm
        have nDr : ∀ x ∈ rs, x ≠ Dn := fun x hx e => by
          obtain ⟨es', _, xs', h1, _⟩ := mem_of_pr lo4.r hx
          rw [e, nD] at h1
          cases h1
        have lo5 := lo4.keep g5 (by simpa using nLb) (by simpa using nrb)
        have g05 := g04.trans g5
        have essl := lo4.r.length
        have len := t.len
        walk_at "w"
        walk_at "i"
        refine ⟨⟨_, SqL.of lo5.l⟩, ?_⟩
        refine lc_go (walk_list (K := K) (a := L) (xs := rs.map V.ref)) (fun Cn j acc H' => Gr [] H5 H' ∧ acc = (ess.take j).map fun es => V.int ((es.length : Nat) : Int))
          (fun Cn nC => ⟨Gr.new nC, rfl⟩) (fun Cn j acc H' _ ⟨g, _⟩ => SqL.of (g.k0 lo5.l)) ?_ ?_
        · rintro Cn j ac x H6 H7 nC hj hC lc ⟨g6, rfl⟩ ⟨rfl, hx⟩
          rw [List.length_map] at hj
          have er : rs[j]? = some rs[j] := List.getElem?_eq_getElem hj
          have ex : x = V.ref rs[j] := by
            rw [List.getElem?_map, er] at hx
            exact (Option.some.inj hx).symm
          subst ex
          obtain ⟨es1, he1, xs1, hr1, hv1⟩ := pr_get lo5.r er
          walk_at "w"
          refine ⟨rfl, ?_⟩
          walk_at "w"
          refine WK.w_ifP rfl ?_
          walk_at "w"
          refine w_len (g6.k0 hr1) ?_
          have gD : Gr [Cn] H7 (upd H7 Cn (.lst (((ess.take j).map fun es => V.int ((es.length : Nat) : Int)) ++ [.int (xs1.length : Nat)]))) := Gr.mutL hC (by simp)
          refine lc_yes hC lc (by omega) ⟨g6.own gD nC, ?_⟩
          rw [take_snoc he1, List.map_append, hv1.length]
          rfl
        · rintro Cn ac H6 nC hC lc ⟨g6, rfl⟩
          rw [List.length_map, essl, List.take_length] at hC
          walk_at "w"
          refine ⟨Cn, ess.map fun es => ((es.length : Nat) : Int), rfl, SqL.of (by rw [hC, List.map_map]; rfl), ?_⟩
          rw [sum_ints]
          walk_at "w"
          have hD6 := g6.k0 hD
          refine w_len hD6 ?_
          walk_at "w"
          have al : acc.length = z.cps.size := by rw [he5.length, hl5]
          refine WK.w_2 (fun h => ?_) (fun h => ?_)
          · walk_at "w"
            have lo6 := lo5.keep g6 (by simp) (by simp)
            refine ⟨.inl ⟨rfl, _, SqL.of lo6.l⟩, ?_⟩
            walk_at "w"
            have rl : rs.length ≤ 100 := by omega
            refine ⟨L, _, _, rfl, rfl, lo6.l, WK.sz' (by rw [List.length_map]; omega), ?_⟩
            have g7 : Gr [L] H6 (upd H6 L (.lst (rs.map V.ref ++ [.ref Dn]))) := Gr.mutL lo6.l (by simp)
            refine ⟨rs ++ [Dn], ess ++ [es], _, _, _, rfl, ?_, ?_, ⟨?_, ?_, ?_, ?_, ?_⟩, ?_, ?_, ?_, ?_⟩
            · exact (g05.trans (g6.mono (by simp))).own (g7.mono (by simp)) nL
            · exact (((hb5.keep g6 (by simp)).keep g7 (by simpa using nbL)).mono (by omega))
            · exact nd_snoc lo6.nd fun hx => nDr Dn hx rfl
            · refine pr_append (rows_keep g7 lo6.r fun x hx => ?_) (.cons ⟨acc, g7.keep _ _ (by simpa using nDL) hD6, (he5.gr g6).gr g7⟩ .nil)
              have z' : x ≠ L := fun e => lo6.nl (e ▸ hx)
              simpa using z'
            · intro hx
              rcases List.mem_append.mp hx with z' | z'
              · exact lo6.nl z'
              · rw [List.mem_singleton] at z'
                exact nDL z'.symm
            · intro es' he'
              rcases List.mem_append.mp he' with z' | z'
              · exact lo6.en es' z'
              · rw [List.mem_singleton] at z'
                subst z'
                exact hen
            · rw [upd_same, List.map_append]
              rfl
            · intro x hx
              rcases List.mem_append.mp hx with z' | z'
              · exact t.fr x z'
              · rw [List.mem_singleton] at z'
                subst z'
                exact g04.live _ nD
            · rw [total_append]
              show ((total ess + (es.length + 0) : Nat) : Int) ≤ _
              have e1 : es.length = acc.length := he5.length.symm
              omega
            · intro es' he'
              rcases List.mem_append.mp he' with z' | z'
              · exact t.ne es' z'
              · rw [List.mem_singleton] at z'
                subst z'
                intro e0
                rw [e0] at hl5
                simp at hl5
                omega
            · rw [List.length_append, List.length_singleton]
              omega
          · walk_at "w"
            have lo6 := lo5.keep g6 (by simp) (by simp)
            exact ⟨rs, ess, _, _, _, rfl, g05.trans (g6.mono (by simp)), (hb5.keep g6 (by simp)).mono (by omega), lo6, t.fr, t.to, t.ne, by omega⟩
    · rintro _ H2 ⟨rs, ess, y4, y5, y6, rfl, t⟩
      walk_at "w"
      exact q L rs ess _ t.g (t.bx.mono (by omega)) t.lo nL t.fr t.to t.ne

end
end PK
namespace PK
open PySem L2
section
variable {P : Program} {w : World} {K : PySem.W.Frag} {mg : Str → Option Value} {base : Heap}
abbrev s_law_beside : Stmt := topS 30
abbrev N_law_beside : List Str := ["_law_box_here", "_law_w", "_law_folk", "_law_found", "_law_p", "_law_way", "_law_gap"]
abbrev ps_law_beside : List Str := ["_law_box_here", "_law_w", "_law_folk"]
theorem sc_law_beside : FnScope N_law_beside ps_law_beside (defScope s_law_beside) := ⟨rfl, rfl, rfl, by decide +kernel, rfl, by decide +kernel, by decide +kernel⟩
structure BsAt (H0 H : Hp) (b f : Addr) (m i : Nat) (st : WS) (es : List Ev) (xs : List V) : Prop where
  g : Gr [b] H0 H
  bx : Bx H b m
  l : H f = some (.lst xs)
  ev : Evs H xs es
  va : Valid st es
  ok : ∀ e ∈ es, e.ok
  len : es.length ≤ i
theorem BsAt.gr {H0 H H1 : Hp} {b f : Addr} {m i : Nat} {st : WS} {es : List Ev} {xs : List V} (t : BsAt H0 H b f m i st es xs) (g : Gr [] H H1) : BsAt H0 H1 b f m i st es xs :=
  ⟨t.g.trans (g.mono (by simp)), t.bx.keep g (by simp), g.k0 t.l, t.ev.gr g, t.va, t.ok, t.len⟩
theorem BsAt.take {H0 H H1 : Hp} {b f : Addr} {m m' i : Nat} {st : WS} {es : List Ev} {xs : List V} (t : BsAt H0 H b f m i st es xs) (g : Gr [b] H H1) (hb : Bx H1 b m') (n : f ≠ b) : BsAt H0 H1 b f m' i st es xs :=
  ⟨t.g.trans g, hb, g.k1 t.l n, t.ev.gr g, t.va, t.ok, t.len⟩
/-- one more event at the end -/
theorem BsAt.add {H0 H : Hp} {b f : Addr} {m i : Nat} {st : WS} {es : List Ev} {xs : List V} {e : Ev} {a : Addr} (t : BsAt H0 H b f m i st es xs) (he : H a = some (.tup e.vs)) (hf : (st.run es).fits e) (ho : e.ok) (n0 : H0 f = none) (nb : f ≠ b) :
    BsAt H0 (upd H f (.lst (xs ++ [.ref a]))) b f m (i + 1) st (es ++ [e]) (xs ++ [.ref a]) := by
  have g : Gr [f] H (upd H f (.lst (xs ++ [.ref a]))) := Gr.mutL t.l (by simp)
  refine ⟨t.g.own (g.mono (by simp)) n0, t.bx.keep g (by simpa using nb.symm), upd_same, pr_append (t.ev.gr g) (.cons ⟨a, rfl, g.tup _ _ he⟩ .nil), valid_snoc t.va hf, ?_, ?_⟩
  · intro x hx
    rcases List.mem_append.mp hx with z | z
    · exact t.ok x z
    · rw [List.mem_singleton] at z
      rw [z]
      exact ho
  · rw [List.length_append, List.length_singleton]
    have := t.len
    omega
def spBeside : Sp := fun vs H Q _ => ∃ (b w sd cl : Addr) (st : WS) (n m k : Nat), vs = [.ref b, .ref w, .int (k : Int)] ∧
  Bx H b (m + 2 * k + 3) ∧ WAt H w sd cl st n ∧ n ≤ 1000 ∧ b ≠ cl ∧ 1 ≤ k ∧ k ≤ 4 ∧ Gd st n ∧ (∀ p : Int, 0 ≤ p → p < k → (st.seats p).isSome = true) ∧
  ∀ (f : Addr) (xs : List V) (es : List Ev) (H' : Hp), BsAt H H' b f m (k + 1) st es xs → H f = none → Q (.ref f) H'
theorem has_beside (D : Df K mg "_law_beside" s_law_beside ps_law_beside) (T : Txt mg) (G_law_take : Has P w K mg base 1 "_law_take" ps_law_take spTake) :
    Has P w K mg base 2 "_law_beside" ps_law_beside spBeside := Has.mk' D fun f fd F => by
  refine F.ok sc_law_beside (fun vs H Q E h => ?_) (fun cdv A outer s H vs Q E hr h => ?_)
  · obtain ⟨b, w, sd, cl, st, n, m, k, rfl, _⟩ := h
    rfl
  · obtain ⟨b, wa, sd, cl, st, n, m, k, rfl, hb, hw, hn, nbc, k1, k4, gd, hj, q⟩ := h
    refine ⟨_, (pss_cons (ps_set (i := 3) sc_law_beside.nd rfl (Or.inl rfl) (pe_lst pa_nil))
(pss_cons (ps_for PassesOwn.never rfl (pi_range1 (by rfl) T.m_range (pa_cons (pv 2) pa_nil)) (pg_name (i := 4) sc_law_beside.nd rfl (Or.inl rfl))
  (pss_cons (ps_set (i := 6) sc_law_beside.nd rfl (Or.inl rfl) (pe_op op_sub (pe_dget (hu_of hr) (pv 1) pe_str (fun _ _ => rfl)) (pe_dget (hu_of hr) (pe_dget (hu_of hr) (pv 1) pe_str (fun _ _ => rfl)) (pv 4) (fun _ _ => rfl))))
  (pss_one (ps_if (PW.pt (pw_and (pt_cmpR op_gt (pv 6) pe_int (nomark _)) (pw_and1 (pt_cmpR op_eq (pe_callH G_law_take (hr.mono (by decide)) (by rfl) (pa_cons (pv 0) (pa_cons pe_int pa_nil))) pe_int (nomark _)))))
    (pss_one (ps_expr (pe_bm PySem.F.plainAttrs_list PySem.F.slot_list_append PySem.F.type_list_append mt_append (pv 3) (pa_cons (pe_tup (pa_cons pe_str (pa_cons (pv 4) (pa_cons (pe_op op_add (pe_op op_add (pe_dget (hu_of hr) (pe_dget (hu_of hr) (pv 1) pe_str (fun _ _ => rfl)) (pv 4) (fun _ _ => rfl)) pe_int) (pe_callH G_law_take (hr.mono (by decide)) (by rfl) (pa_cons (pv 0) (pa_cons (pv 6) pa_nil)))) pa_nil)))) pa_nil))))
    pss_nil))))
(pss_cons (ps_par (i := 5) (j := 4) (by rfl) sc_law_beside.nd rfl rfl (by decide) rfl rfl (pa_cons (pe_callH G_law_take (hr.mono (by decide)) (by rfl) (pa_cons (pv 0) (pa_cons pe_int pa_nil))) (pa_cons (pe_callH G_law_take (hr.mono (by decide)) (by rfl) (pa_cons (pv 0) (pa_cons (pv 2) pa_nil))) pa_nil)) (by rfl))
(pss_cons (ps_if (pt_cmpR op_eq (pv 5) pe_int (nomark _))
  (pss_one (ps_expr (pe_bm PySem.F.plainAttrs_list PySem.F.slot_list_append PySem.F.type_list_append mt_append (pv 3) (pa_cons (pe_tup (pa_cons pe_str pa_nil)) pa_nil))))
  pss_nil)
(pss_cons (ps_if (PW.pt (pw_and (pt_cmpR op_eq (pv 5) pe_int (nomark _)) (pw_and1 (pt_cmpR op_lt (pe_callB (call_len_seqK (K := K)) (by rfl) T.m_len (by decide +kernel) (pa_cons (pe_dget (hu_of hr) (pv 1) pe_str (fun _ _ => rfl)) pa_nil)) pe_int (nomark _)))))
  (pss_one (ps_expr (pe_bm PySem.F.plainAttrs_list PySem.F.slot_list_append PySem.F.type_list_append mt_append (pv 3) (pa_cons (pe_tup (pa_cons pe_str (pa_cons (pv 4) pa_nil))) pa_nil))))
  pss_nil)
(pss_cons (ps_if (PW.pt (pw_and (pt_cmpR op_eq (pv 5) pe_int (nomark _)) (pw_and1 (pt_cmpR (op_neDK (K := K) hr.units) (pe_dget (hu_of hr) (pv 1) pe_str (fun _ _ => rfl)) (pe_lst pa_nil) (nomark _)))))
  (pss_one (ps_expr (pe_bm PySem.F.plainAttrs_list PySem.F.slot_list_append PySem.F.type_list_append mt_append (pv 3) (pa_cons (pe_tup (pa_cons pe_str (pa_cons (pv 4) (pa_cons (pe_callH G_law_take (hr.mono (by decide)) (by rfl) (pa_cons (pv 0) (pa_cons (pe_callB (call_len_seqK (K := K)) (by rfl) T.m_len (by decide +kernel) (pa_cons (pe_dget (hu_of hr) (pv 1) pe_str (fun _ _ => rfl)) pa_nil)) pa_nil))) pa_nil)))) pa_nil))))
  pss_nil)
(pss_cons (ps_if (pt_cmpR op_eq (pv 5) pe_int (nomark _))
  (pss_one (ps_expr (pe_bm PySem.F.plainAttrs_list PySem.F.slot_list_append PySem.F.type_list_append mt_append (pv 3) (pa_cons (pe_tup (pa_cons pe_str (pa_cons (pv 4) pa_nil))) pa_nil))))
  pss_nil)
(pss_one (ps_ret (pv 3)))))))))), ?_⟩
    walk_at "w"
    refine ⟨WK.sz, fun f nf => ?_⟩
    walk_at "w"
    obtain ⟨bl, hbl⟩ := hb.lst
    have nfb : f ≠ b := (ne_of_none hbl nf).symm
    have nbw : b ≠ wa := ne_of hbl hw.w (by intro z; cases z)
    have nbs : b ≠ sd := by
      obtain ⟨kvs, ks, hs, _⟩ := hw.s
      exact ne_of hbl hs (by intro z; cases z)
    have g0 : Gr [] H (upd H f (.lst [])) := Gr.new nf
    have t0 : BsAt H (upd H f (.lst [])) b f (m + 2 * k + 3) 0 st [] [] := ⟨g0.mono (by simp), hb.keep g0 (by simp), upd_same, .nil, True.intro, by simp, Nat.le_refl _⟩
    have wk : ∀ {H' : Hp}, Gr [b] H H' → WAt H' wa sd cl st n := fun g => hw.keep g (by simpa using nbw.symm) (by simpa using nbs.symm) (by simpa using nbc.symm)
    have sm : st.many ≤ 1000 := by have := gd.m1; omega
    refine ⟨by omega, by omega, lp_range (fun i σ' H' => ∃ xs es y4 y6, σ' = [some (.ref b), some (.ref wa), some (.int (k : Int)), some (.ref f), y4, none, y6] ∧ BsAt H H' b f (m + 2 * (k - i) + 3) i st es xs ∧ (∀ r : Int, i ≤ r → (st.run es).seats r = st.seats r) ∧ (st.run es).many = st.many ∧ (st.run es).copies = st.copies)
      ⟨[], [], none, none, rfl, t0, fun _ _ => rfl, rfl, rfl⟩ ?_ ?_⟩
    · rintro i _ H2 hi ⟨xs, es, y4, y6, rfl, t, s1, s2, s3⟩
      have hi' : i < k := by omega
      have hw2 := wk t.g
      obtain ⟨p, hp⟩ := Option.isSome_iff_exists.mp (hj i (by omega) (by omega))
      have p0 := gd.s _ _ hp
      have hg := hw2.g_seat (0 + (i : Int))
      rw [Int.zero_add, hp] at hg
      have tl := t.len
      have xl := t.ev.length
      have skip : ∀ H', BsAt H H' b f (m + 2 * (k - (i + 1)) + 3) i st es xs → ∀ y6', ∃ xs es y4 y6, [some (.ref b), some (.ref wa), some (V.int (k : Int)), some (.ref f), some (V.int (0 + (i : Int))), none, y6'] = [some (.ref b), some (.ref wa), some (V.int (k : Int)), some (.ref f), y4, none, y6] ∧ BsAt H H' b f (m + 2 * (k - (i + 1)) + 3) (i + 1) st es xs ∧ (∀ r : Int, ((i + 1 : Nat) : Int) ≤ r → (st.run es).seats r = st.seats r) ∧ (st.run es).many = st.many ∧ (st.run es).copies = st.copies := fun H' t' y6' =>
        ⟨xs, es, _, _, rfl, ⟨t'.g, t'.bx, t'.l, t'.ev, t'.va, t'.ok, by omega⟩, fun r hr => s1 r (by omega), s2, s3⟩
      walk_at "w"
      refine ⟨_, _, rfl, hw2.g_many, ?_⟩
      walk_at "w"
      refine ⟨_, _, rfl, hw2.g_seats, ?_⟩
      walk_at "w"
      rw [Int.zero_add] at *
      refine ⟨_, _, rfl, hg, ?_⟩
      walk_at "w"
      refine WK.w_if ?_
      walk_at "i"
      refine WK.w_2 (fun h1 => ?_) (fun h1 => ?_)
      · walk_at "w"
        refine use_take (n := m + 2 * (k - (i + 1)) + 4) (t.bx.mono (by omega)) (by omega) (by omega) (fun r H3 r0 r1 g3 hb3 => ?_)
        have t3 := t.take g3 hb3 nfb
        have hw3 := wk t3.g
        have hg3 := hw3.g_seat (i : Int)
        rw [hp] at hg3
        walk_at "w"
        refine WK.w_2 (fun h2 => ?_) (fun h2 => ?_)
        · walk_at "w"
          refine ⟨.inl ⟨rfl, xs, SqL.of t3.l⟩, ?_⟩
          walk_at "w"
          refine ⟨_, _, rfl, hw3.g_seats, ?_⟩
          walk_at "w"
          refine ⟨_, _, rfl, hg3, ?_⟩
          walk_at "w"
          refine use_take (n := m + 2 * (k - (i + 1)) + 3) (hb3.mono (by omega)) (by omega) (by omega) (fun x H4 x0 x1 g4 hb4 => ?_)
          have t4 := t3.take g4 hb4 nfb
          walk_at "w"
          refine ⟨WK.sz, fun z nz => ?_⟩
          have t5 := t4.gr (Gr.new (o := .tup [.str "read", .int (i : Int), .int (p + 1 + x)]) nz)
          walk_at "w"
          refine ⟨f, xs, _, rfl, rfl, t5.l, WK.sz' (by omega), ?_⟩
          have hf : (st.run es).fits (.read i (p + 1 + x)) := ⟨p, by rw [s1 i (by omega)]; exact hp, by omega, by rw [s2]; omega⟩
          have t6 := t5.add (e := .read i (p + 1 + x)) upd_same hf ⟨⟨by omega, by omega⟩, by omega⟩ nf nfb
          refine ⟨_, _, _, _, rfl, t6, fun r hr => ?_, ?_, ?_⟩
          · rw [run_snoc]
            show (if r = (i : Int) then some (p + 1 + x) else (st.run es).seats r) = _
            rw [if_neg (by omega)]
            exact s1 r (by omega)
          · rw [run_snoc]
            exact s2
          · rw [run_snoc]
            exact s3
        · exact skip _ ⟨t3.g, t3.bx.mono (by omega), t3.l, t3.ev, t3.va, t3.ok, t3.len⟩ _
      · exact skip _ ⟨t.g, t.bx.mono (by omega), t.l, t.ev, t.va, t.ok, t.len⟩ _
    · rintro _ H2 ⟨xs, es, y4, y6, rfl, t, -, s2, s3⟩
      have tl := t.len
      have xl := t.ev.length
      walk_at "w"
      refine use_take (n := m + 2) (t.bx.mono (by omega)) (by omega) (by omega) (fun way H3 w0 w1 g3 hb3 => ?_)
      walk_at "w"
      refine use_take (n := m + 1) hb3 (by omega) (by omega) (fun p H4 p0 p1 g4 hb4 => ?_)
      have t4 := (t.take g3 hb3 nfb).take g4 hb4 nfb
      clear t hb3 g3 g4
      have hw4 := wk t4.g
      obtain ⟨sp, hsp⟩ := Option.isSome_iff_exists.mp (run_some (es := es) (hj p p0 p1))
      have fin : ∀ {H' : Hp} {m' i : Nat} {es : List Ev} {xs : List V}, BsAt H H' b f m' i st es xs → m ≤ m' → i ≤ k + 1 → Q (.ref f) H' := fun t hm hi => q f _ _ _ ⟨t.g, t.bx.mono hm, t.l, t.ev, t.va, t.ok, Nat.le_trans t.len hi⟩ nf
      have kk : (k : Int).toNat = k := by omega
      walk_at "w"
      walk_at "i"
      refine WK.w_2 (fun h0 => ?_) (fun h0 => ?_)
      · subst h0
        walk_at "w"
        refine ⟨.inl ⟨rfl, xs, SqL.of t4.l⟩, ?_⟩
        walk_at "w"
        refine ⟨WK.sz, fun z nz => ?_⟩
        have t5 := t4.gr (Gr.new (o := .tup [.str "wait"]) nz)
        walk_at "w"
        refine ⟨f, xs, _, rfl, rfl, t5.l, WK.sz' (by omega), ?_⟩
        have t6 := t5.add (e := .wait) upd_same True.intro True.intro nf nfb
        walk_at "w"
        refine WK.w_if ?_
        walk_at "i"
        refine WK.w_ifN (by decide) ?_
        refine WK.w_ifN (by decide) ?_
        walk_at "w"
        refine WK.w_if ?_
        walk_at "i"
        refine WK.w_ifN (by decide) ?_
        refine WK.w_ifN (by decide) ?_
        walk_at "w"
        walk_at "i"
        refine WK.w_ifN (by decide) ?_
        walk_at "w"
        exact fin t6 (by omega) (by omega)
      walk_at "w"
      refine WK.w_if ?_
      walk_at "i"
      refine WK.w_2 (fun h1 => ?_) (fun h1 => ?_)
      · subst h1
        walk_at "w"
        refine ⟨_, _, rfl, hw4.g_copies, ?_⟩
        walk_at "w"
        refine w_len hw4.c ?_
        walk_at "w"
        refine WK.w_2 (fun h2 => ?_) (fun h2 => ?_)
        · walk_at "w"
          refine ⟨.inl ⟨rfl, xs, SqL.of t4.l⟩, ?_⟩
          walk_at "w"
          refine ⟨WK.sz, fun z nz => ?_⟩
          have t5 := t4.gr (Gr.new (o := .tup [.str "save", .int p]) nz)
          walk_at "w"
          refine ⟨f, xs, _, rfl, rfl, t5.l, WK.sz' (by omega), ?_⟩
          have t6 := t5.add (e := .save p) upd_same ⟨sp, hsp⟩ ⟨p0, by omega⟩ nf nfb
          walk_at "w"
          refine WK.w_if ?_
          walk_at "i"
          refine WK.w_ifN (by decide) ?_
          refine WK.w_ifN (by decide) ?_
          walk_at "w"
          walk_at "i"
          refine WK.w_ifN (by decide) ?_
          walk_at "w"
          exact fin t6 (by omega) (by omega)
        · walk_at "w"
          refine WK.w_if ?_
          walk_at "i"
          refine WK.w_ifN (by decide) ?_
          refine WK.w_ifN (by decide) ?_
          walk_at "w"
          walk_at "i"
          refine WK.w_ifN (by decide) ?_
          walk_at "w"
          exact fin t4 (by omega) (by omega)
      refine WK.w_ifN (by decide) ?_
      walk_at "w"
      refine WK.w_if ?_
      walk_at "i"
      refine WK.w_2 (fun h2 => ?_) (fun h2 => ?_)
      · subst h2
        walk_at "w"
        refine ⟨_, _, rfl, hw4.g_copies, ?_⟩
        walk_at "w"
        refine ⟨WK.sz, fun z nz => ?_⟩
        have t5 := t4.gr (Gr.new (o := .lst []) nz)
        have hw5 := wk t5.g
        have hz5 : (upd H4 z (.lst [])) z = some (.lst []) := upd_same
        generalize (upd H4 z (.lst [])) = H5 at *
        refine w_neNil (n := 0) (SqL.of hw5.c) (dp_ints _) (.ints _) (by decide) hz5 ?_
        walk_at "w"
        refine ite2 (fun h5 => ?_) (fun h5 => ?_)
        · have hc : 0 < st.copies.length := by
            cases e : st.copies with
            | nil => rw [e] at h5; simp at h5
            | cons x y => simp
          have hcn := hw5.cn
          walk_at "w"
          refine ⟨.inl ⟨rfl, xs, SqL.of t5.l⟩, ?_⟩
          walk_at "w"
          refine ⟨_, _, rfl, hw5.g_copies, ?_⟩
          walk_at "w"
          refine w_len hw5.c ?_
          walk_at "w"
          refine use_take (n := m) (t5.bx.mono (by omega)) (by rw [List.length_map]; omega) (by rw [List.length_map]; omega) (fun x H6 x0 x1 g6 hb6 => ?_)
          rw [List.length_map] at x1
          have t6 := t5.take g6 hb6 nfb
          walk_at "w"
          refine ⟨WK.sz, fun y ny => ?_⟩
          have t7 := t6.gr (Gr.new (o := .tup [.str "load", .int p, .int x]) ny)
          walk_at "w"
          refine ⟨f, xs, _, rfl, rfl, t7.l, WK.sz' (by omega), ?_⟩
          have t8 := t7.add (e := .load p x) upd_same (by rw [show (st.run es).fits (.load p x) = (0 ≤ x ∧ x < ((st.run es).copies.length : Nat)) from rfl, s3]; exact ⟨x0, x1⟩) ⟨⟨p0, by omega⟩, x0⟩ nf nfb
          walk_at "w"
          walk_at "i"
          refine WK.w_ifN (by decide) ?_
          walk_at "w"
          exact fin t8 (by omega) (by omega)
        · walk_at "w"
          walk_at "i"
          refine WK.w_ifN (by decide) ?_
          walk_at "w"
          exact fin t5 (by omega) (by omega)
      refine WK.w_ifN (by decide) ?_
      walk_at "w"
      walk_at "i"
      refine WK.w_2 (fun h3 => ?_) (fun h3 => ?_)
      · walk_at "w"
        refine ⟨.inl ⟨rfl, xs, SqL.of t4.l⟩, ?_⟩
        walk_at "w"
        refine ⟨WK.sz, fun z nz => ?_⟩
        have t5 := t4.gr (Gr.new (o := .tup [.str "join", .int p]) nz)
        walk_at "w"
        refine ⟨f, xs, _, rfl, rfl, t5.l, WK.sz' (by omega), ?_⟩
        have t6 := t5.add (e := .join p) upd_same True.intro ⟨p0, by omega⟩ nf nfb
        walk_at "w"
        exact fin t6 (by omega) (by omega)
      · walk_at "w"
        exact fin t4 (by omega) (by omega)

end
end PK
namespace PK
open PySem L2
section
variable {P : Program} {w : World} {K : PySem.W.Frag} {mg : Str → Option Value} {base : Heap}
abbrev s_law_fit : Stmt := topS 31
abbrev N_law_fit : List Str := ["_law_box_here", "_law_most", "_law_folk", "_law_far", "_law_lots_here", "_law_w", "_law_found", "_law_event_so", "_law_own_so", "_law_rest", "_law_p", "_law_some"]
abbrev ps_law_fit : List Str := ["_law_box_here", "_law_most", "_law_folk", "_law_far"]
theorem sc_law_fit : FnScope N_law_fit ps_law_fit (defScope s_law_fit) := ⟨rfl, rfl, rfl, by decide +kernel, rfl, by decide +kernel, by decide +kernel⟩
structure FtAt (H0 H : Hp) (b f w sd cl l : Addr) (m k : Nat) (rs : List Addr) (ess : List (List Ev)) (es : List Ev) (xs : List V) : Prop where
  g : Gr [b] H0 H
  bx : Bx H b m
  wa : WAt H w sd cl (WS.nil.run es) es.length
  fo : H f = some (.lst xs)
  ev : Evs H xs es
  va : Valid .nil es
  ok : ∀ e ∈ es, e.ok
  lo : LotsAt H l rs ess
  jn : ∀ p : Int, 0 ≤ p → p < k → ((WS.nil.run es).seats p).isSome = true
  fl : l ≠ b ∧ l ≠ f ∧ l ≠ w ∧ l ≠ sd ∧ l ≠ cl
  fr : ∀ r ∈ rs, r ≠ b ∧ r ≠ f ∧ r ≠ w ∧ r ≠ sd ∧ r ≠ cl
  rn : ∀ r ∈ rs, H0 r = none
  bn : b ≠ f ∧ b ≠ w ∧ b ≠ sd ∧ b ≠ cl
  fn : f ≠ w ∧ f ≠ sd ∧ f ≠ cl
theorem FtAt.gr {H0 H H1 : Hp} {b f w sd cl l : Addr} {m k : Nat} {rs : List Addr} {ess : List (List Ev)} {es : List Ev} {xs : List V} (t : FtAt H0 H b f w sd cl l m k rs ess es xs) (g : Gr [] H H1) : FtAt H0 H1 b f w sd cl l m k rs ess es xs :=
  { g := t.g.trans (g.mono (by simp)), bx := t.bx.keep g (by simp), wa := t.wa.keep g (by simp) (by simp) (by simp), fo := g.k0 t.fo, ev := t.ev.gr g, va := t.va, ok := t.ok, lo := t.lo.keep g (by simp) (by simp), jn := t.jn, fl := t.fl, fr := t.fr, rn := t.rn, bn := t.bn, fn := t.fn }
theorem FtAt.take {H0 H H1 : Hp} {b f w sd cl l : Addr} {m m' k : Nat} {rs : List Addr} {ess : List (List Ev)} {es : List Ev} {xs : List V} (t : FtAt H0 H b f w sd cl l m k rs ess es xs) (g : Gr [b] H H1) (hb : Bx H1 b m') : FtAt H0 H1 b f w sd cl l m' k rs ess es xs :=
  { g := t.g.trans g, bx := hb, wa := t.wa.keep g (by simpa using t.bn.2.1.symm) (by simpa using t.bn.2.2.1.symm) (by simpa using t.bn.2.2.2.symm), fo := g.k1 t.fo t.bn.1.symm, ev := t.ev.gr g, va := t.va, ok := t.ok, lo := t.lo.keep g (by simpa using t.fl.1) (fun r hr => by simpa using (t.fr r hr).1), jn := t.jn, fl := t.fl, fr := t.fr, rn := t.rn, bn := t.bn, fn := t.fn }
/-- w moved by an event that is put behind the others -/
theorem FtAt.step {H0 H H1 : Hp} {b f w sd cl l : Addr} {m k : Nat} {rs : List Addr} {ess : List (List Ev)} {es : List Ev} {xs : List V} {e : Ev} {v : V} (t : FtAt H0 H b f w sd cl l m k rs ess es xs) (nn : H0 f = none ∧ H0 w = none ∧ H0 sd = none ∧ H0 cl = none)
    (g : Gr [f, w, sd, cl] H H1) (he : IsEv H1 v e) (hf : (WS.nil.run es).fits e) (ho : e.ok) (hw : WAt H1 w sd cl ((WS.nil.run es).step e) (es.length + 1)) (hfo : H1 f = some (.lst (xs ++ [v]))) : FtAt H0 H1 b f w sd cl l m k rs ess (es ++ [e]) (xs ++ [v]) :=
  { g := t.g.sub (L := [f, w, sd, cl]) (g.mono fun a ha => List.mem_append_left _ ha) (by simp [nn.1, nn.2.1, nn.2.2.1, nn.2.2.2])
    bx := t.bx.keep g (by simp [t.bn.1, t.bn.2.1, t.bn.2.2.1, t.bn.2.2.2])
    wa := by rw [run_snoc, List.length_append]; exact hw
    fo := hfo
    ev := pr_append (t.ev.gr g) (.cons he .nil)
    va := valid_snoc t.va hf
    ok := fun x hx => (List.mem_append.mp hx).elim (t.ok x) fun z => by rw [List.mem_singleton] at z; rw [z]; exact ho
    lo := t.lo.keep g (by simp [t.fl.2.1, t.fl.2.2.1, t.fl.2.2.2.1, t.fl.2.2.2.2]) (fun r hr => by
      have z := t.fr r hr
      simp [z.2.1, z.2.2.1, z.2.2.2.1, z.2.2.2.2])
    jn := fun p p0 p1 => by rw [run_snoc]; exact step_some (t.jn p p0 p1)
    fl := t.fl, fr := t.fr, rn := t.rn, bn := t.bn, fn := t.fn }
/-- the lots changed -/
theorem FtAt.lots {H0 H : Hp} {b f w sd cl l l' : Addr} {m k : Nat} {rs rs' : List Addr} {ess ess' : List (List Ev)} {es : List Ev} {xs : List V} (t : FtAt H0 H b f w sd cl l m k rs ess es xs) (lo : LotsAt H l' rs' ess') (fl : l' ≠ b ∧ l' ≠ f ∧ l' ≠ w ∧ l' ≠ sd ∧ l' ≠ cl) (fr : ∀ r ∈ rs', r ∈ rs) : FtAt H0 H b f w sd cl l' m k rs' ess' es xs :=
  { t with lo := lo, fl := fl, fr := fun r hr => t.fr r (fr r hr), rn := fun r hr => t.rn r (fr r hr) }
theorem rows_set {H H' : Hp} {M : List Addr} (g : Gr M H H') {es' : List Ev} : ∀ {rs : List Addr} {ess : List (List Ev)} {j : Nat} {r : Addr}, Paired (RowAt H) rs ess → rs.Nodup → rs[j]? = some r → RowAt H' r es' → (∀ x ∈ rs, x ≠ r → x ∉ M) → Paired (RowAt H') rs (ess.set j es')
  | _, _, j, _, .nil, _, e, _, _ => by simp at e
  | x :: rs, _, 0, r, .cons h t, nd, e, hr, n => by
    have e : x = r := by simpa using e
    subst e
    exact .cons hr (rows_keep g t fun y hy => n y (by simp [hy]) fun z => (List.nodup_cons.mp nd).1 (z ▸ hy))
  | x :: rs, _, j + 1, r, .cons h t, nd, e, hr, n => by
    have e : rs[j]? = some r := by simpa using e
    have nx : x ≠ r := fun z => (List.nodup_cons.mp nd).1 (z ▸ List.mem_of_getElem? e)
    exact .cons (h.keep g (n x (by simp) nx)) (rows_set g t (List.nodup_cons.mp nd).2 e hr fun y hy => n y (by simp [hy]))
theorem total_set : ∀ {ess : List (List Ev)} {j : Nat} {e : Ev} {es' : List Ev}, ess[j]? = some (e :: es') → total (ess.set j es') + 1 = total ess
  | [], j, _, _, h => by simp at h
  | x :: ess, 0, e, es', h => by
    have h : x = e :: es' := by simpa using h
    subst h
    show (es'.length + (ess.map List.length).sum) + 1 = (es'.length + 1) + (ess.map List.length).sum
    omega
  | x :: ess, j + 1, e, es', h => by
    have ih := total_set (ess := ess) (j := j) (e := e) (es' := es') (by simpa using h)
    show (x.length + ((ess.set j es').map List.length).sum) + 1 = x.length + (ess.map List.length).sum
    unfold total at ih
    omega
def FitP (H : Hp) (b f w sd cl : Addr) (most far : Int) (m k mm : Nat) (σ : L2.St) (H' : Hp) : Prop :=
  ∃ l rs ess es xs y7 y8 y9, σ = [some (.ref b), some (.int most), some (.int (k : Int)), some (.int far), some (.ref l), some (.ref w), some (.ref f), y7, y8, y9, none, none] ∧
    FtAt H H' b f w sd cl l (m + 12 * mm) k rs ess es xs ∧ (∀ z ∈ ess, z ≠ []) ∧ total ess = mm ∧ es.length + mm * 5 ≤ 43
def spFit : Sp := fun vs H Q _ => ∃ (b : Addr) (m k : Nat) (most far : Int), vs = [.ref b, .int most, .int (k : Int), .int far] ∧
  Bx H b (m + 200) ∧ 2 ≤ most ∧ most ≤ 8 ∧ 1 ≤ k ∧ k ≤ 3 ∧
  ∀ (v : V) (H' : Hp) (es : List Ev), Gr [b] H H' → Bx H' b m → IsTT H' v es → Valid .nil es → (∀ e ∈ es, e.ok) → es.length ≤ 90 → Q v H'
theorem has_fit (D : Df K mg "_law_fit" s_law_fit ps_law_fit) (T : Txt mg) (G_law_take : Has P w K mg base 1 "_law_take" ps_law_take spTake) (G_law_moved : Has P w K mg base 1 "_law_moved" ps_law_moved spMoved) (G_law_lots : Has P w K mg base 2 "_law_lots" ps_law_lots spLots)
    (G_law_beside : Has P w K mg base 2 "_law_beside" ps_law_beside spBeside) (G_law_ended : Has P w K mg base 2 "_law_ended" ps_law_ended spEnded) :
    Has P w K mg base 3 "_law_fit" ps_law_fit spFit := Has.mk' D fun f fd F => by
  refine F.ok sc_law_fit (fun vs H Q E h => ?_) (fun cdv A outer s H vs Q E hr h => ?_)
  · obtain ⟨b, m, k, most, far, rfl, _⟩ := h
    rfl
  · obtain ⟨b, m, k, most, far, rfl, hb, m2, m8, k1, k3, q⟩ := h
    refine ⟨_, (pss_cons (ps_set (i := 4) sc_law_fit.nd rfl (Or.inl rfl) (pe_callH G_law_lots (hr.mono (by decide)) (by rfl) (pa_cons (pv 0) (pa_cons (pv 1) (pa_cons (pe_slice (sl_listK (K := K)) (pe_lst (pa_cons pe_str (pa_cons pe_str (pa_cons pe_str pa_nil)))) po_none (po_some (pe_op op_sub (pe_op op_fdiv (pv 1) pe_int) (pe_callTy call_int1 (by rfl) T.m_int (by decide +kernel) (pa_cons (pe_cmpR op_eq (pv 2) pe_int (nomark _)) pa_nil))))) pa_nil)))))
(pss_cons (ps_par (i := 5) (j := 6) (by rfl) sc_law_fit.nd rfl rfl (by decide) rfl rfl (pa_cons (pe_disp (pps_cons pe_str pe_dnewK (pps_cons pe_str (pe_lst pa_nil) (pps_cons pe_str pe_int pps_nil))) (by rfl) (by rfl) (fun z => by cases z) (by decide)) (pa_cons (pe_lc (own := [("_law_p", 10)]) (g := gName 10)  rfl sc_law_fit.nd (pi_range1 (by rfl) T.m_range (pa_cons (pv 2) pa_nil)) (blkOk_by (own := [("_law_p", 10)]) (N := N_law_fit) (sc := defScope s_law_fit) (by decide +kernel)) (fun _ _ _ _ _ => pg_name (i := 10) sc_law_fit.nd rfl (Or.inl rfl)) (fun _ _ _ _ _ => pts_nil) (fun _ _ _ _ _ => (pe_tup (pa_cons pe_str (pa_cons (pv 10) pa_nil))))) pa_nil)) (by rfl))
(pss_cons (ps_for PassesOwn.never rfl (pi_list (pv 6)) (pg_name (i := 7) sc_law_fit.nd rfl (Or.inl rfl))
  (pss_one (ps_expr (pe_callH G_law_moved (hr.mono (by decide)) (by rfl) (pa_cons (pv 5) (pa_cons (pv 7) pa_nil))))))
(pss_cons (ps_while PassesOwn.never (pt_cmpR (op_neDK (K := K) hr.units) (pv 4) (pe_lst pa_nil) (nomark _))
  (pss_cons (ps_set (i := 8) sc_law_fit.nd rfl (Or.inl rfl) (pe_ix (ix_listK (K := K)) (pv 4) (pe_callH G_law_take (hr.mono (by decide)) (by rfl) (pa_cons (pv 0) (pa_cons (pe_callB (call_len_seqK (K := K)) (by rfl) T.m_len (by decide +kernel) (pa_cons (pv 4) pa_nil)) pa_nil))) (fun _ _ => rfl)))
  (pss_cons (ps_expr (pe_bm PySem.F.plainAttrs_list PySem.F.slot_list_append PySem.F.type_list_append mt_append (pv 6) (pa_cons (pe_bm PySem.F.plainAttrs_list PySem.F.slot_list_pop PySem.F.type_list_pop mt_popAt (pv 8) (pa_cons pe_int pa_nil)) pa_nil)))
  (pss_cons (ps_expr (pe_callH G_law_moved (hr.mono (by decide)) (by rfl) (pa_cons (pv 5) (pa_cons (pe_ix (ix_listK (K := K)) (pv 6) (pe_un un_neg pe_int) (fun _ _ => rfl)) pa_nil))))
  (pss_cons (ps_setLc (i := 4) (own := [("_law_some", 11)]) (g := gName 11)  rfl sc_law_fit.nd rfl rfl (sw_true rfl rfl rfl (by decide +kernel)) (pi_list (pv 4)) (blkOk_by (own := [("_law_some", 11)]) (N := N_law_fit) (sc := defScope s_law_fit) (by decide +kernel)) (fun _ _ _ _ _ => pg_name (i := 11) sc_law_fit.nd rfl (Or.inl rfl)) (fun _ _ _ _ _ => pts_one (pt_cmpR (op_neDK (K := K) hr.units) (pv 11) (pe_lst pa_nil) (nomark _))) (fun _ _ _ _ _ => (pv 11)))
  (pss_cons (ps_set (i := 9) sc_law_fit.nd rfl (Or.inl rfl) (pe_callB (cr_sumK (K := K) rfl) (by rfl) T.m_sum (by decide +kernel) (pa_cons (pe_lc (own := [("_law_some", 11)]) (g := gName 11)  rfl sc_law_fit.nd (pi_list (pv 4)) (blkOk_by (own := [("_law_some", 11)]) (N := N_law_fit) (sc := defScope s_law_fit) (by decide +kernel)) (fun _ _ _ _ _ => pg_name (i := 11) sc_law_fit.nd rfl (Or.inl rfl)) (fun _ _ _ _ _ => pts_nil) (fun _ _ _ _ _ => (pe_callB (call_len_seqK (K := K)) (by rfl) T.m_len (by decide +kernel) (pa_cons (pv 11) pa_nil)))) pa_nil)))
  (pss_one (ps_for PassesOwn.never rfl (pi_list (pe_callH G_law_beside (hr.mono (by decide)) (by rfl) (pa_cons (pv 0) (pa_cons (pv 5) (pa_cons (pv 2) pa_nil))))) (pg_name (i := 7) sc_law_fit.nd rfl (Or.inl rfl))
    (pss_one (ps_if (pt_cmpR op_lt (pe_op op_add (pe_op op_add (pe_callB (call_len_seqK (K := K)) (by rfl) T.m_len (by decide +kernel) (pa_cons (pv 6) pa_nil)) (pv 9)) (pv 2)) (pv 3) (nomark _))
      (pss_cons (ps_expr (pe_callH G_law_moved (hr.mono (by decide)) (by rfl) (pa_cons (pv 5) (pa_cons (pv 7) pa_nil))))
      (pss_one (ps_expr (pe_bm PySem.F.plainAttrs_list PySem.F.slot_list_append PySem.F.type_list_append mt_append (pv 6) (pa_cons (pv 7) pa_nil)))))
      pss_nil))))))))))
(pss_one (ps_ret (pe_callH G_law_ended (hr.mono (by decide)) (by rfl) (pa_cons (pe_callTy (call_tuple_ofK (K := K)) (by rfl) T.m_tuple (by decide +kernel) (pa_cons (pv 6) pa_nil)) pa_nil)))))))), ?_⟩
    walk_at "w"
    refine ⟨WK.sz, fun c nc => ?_⟩
    walk_at "w"
    obtain ⟨bl, hbl⟩ := hb.lst
    refine ⟨c, _, rfl, SqL.of upd_same, fun nl nn => ?_⟩
    walk_at "w"
    have hcut : ∀ lo hi : Option Int, ∃ names : List Str, cutV [V.str "a", V.str "b", V.str "cc"] lo hi = names.map V.str ∧ names.length ≤ 3 ∧ ∀ x ∈ names, KeyOk x := fun lo hi => by
      refine ⟨((["a", "b", "cc"] : List Str).drop (HT.sIx 3 0 lo)).take (HT.sIx 3 3 hi - HT.sIx 3 0 lo), ?_, ?_, fun x hx => ?_⟩
      · rw [List.map_take, List.map_drop]
        rfl
      · rw [List.length_take, List.length_drop]
        show min _ (3 - _) ≤ 3
        omega
      · have h1 := List.mem_of_mem_drop (List.mem_of_mem_take hx)
        simp only [List.mem_cons, List.not_mem_nil, or_false] at h1
        rcases h1 with z | z | z <;> subst z
        · exact .inl rfl
        · exact .inr (.inl rfl)
        · exact .inr (.inr (.inl rfl))
    obtain ⟨names, en, nlen, hkeys⟩ := hcut none (some (most / 2 - if decide ((k : Int) = 3) = true then 1 else 0))
    have g1 : Gr [] H (upd H c (.lst [.str "a", .str "b", .str "cc"])) := Gr.new nc
    have g2 : Gr [] (upd H c (.lst [.str "a", .str "b", .str "cc"])) (upd (upd H c (.lst [.str "a", .str "b", .str "cc"])) nl (.lst (names.map V.str))) := Gr.new nn
    have hn2 : (upd (upd H c (.lst [.str "a", .str "b", .str "cc"])) nl (.lst (names.map V.str))) nl = some (.lst (names.map V.str)) := upd_same
    have nnb : nl ≠ b := (ne_of_none (g1.k0 hbl) nn).symm
    rw [en]
    have g02 := g1.trans g2
    have hb2 := hb.keep g02 (by simp)
    generalize (upd (upd H c (.lst [.str "a", .str "b", .str "cc"])) nl (.lst (names.map V.str))) = H2 at *
    refine ⟨b, nl, m + 180, most, names, rfl, hb2.mono (by omega), hn2, nnb, by omega, hkeys, by omega, fun l rs ess H3 g3 hb3 lo3 l0 r0 to3 ne3 => ?_⟩
    have g03 : Gr [b] H H3 := (g02.mono (by simp)).trans g3
    have nlb : l ≠ b := (ne_of_none (g02.k0 hbl) l0).symm
    have nrb : ∀ r ∈ rs, r ≠ b := fun r hr => (ne_of_none (g02.k0 hbl) (r0 r hr)).symm
    clear g1 g2 hn2
    walk_at "w"
    refine w_wdict fun wa sd cl H4 nw ns ncl g4 hw4 => ?_
    walk_at "w"
    have lo4 := lo3.keep g4 (by simp) (by simp)
    have rne : ∀ {a : Addr}, H3 a = none → a ≠ l ∧ ∀ r ∈ rs, r ≠ a := fun {a} h => ⟨(ne_of_none lo3.l h).symm, fun r hr e => by
      obtain ⟨es', _, xs', h1, _⟩ := mem_of_pr lo3.r hr
      rw [e, h] at h1
      cases h1⟩
    have hb4 := hb3.keep g4 (by simp)
    have g04 := g03.trans (g4.mono (by simp))
    have bne : ∀ {a : Addr}, H3 a = none → a ≠ b := fun {a} h e => by
      obtain ⟨_, z⟩ := hb3.lst
      rw [← e, h] at z
      cases z
    refine ⟨by omega, by omega, ?_⟩
    have kk : (k : Int).toNat = k := by omega
    rw [kk]
    refine lc_go (walk_range (lo := 0) (n := k)) (fun Dn i acc H' => Gr [] H4 H' ∧ Evs H' acc ((List.range i).map fun p => Ev.join (p : Nat)))
      (fun Dn nD => ⟨Gr.new nD, .nil⟩) (fun _ _ _ _ _ _ => trivial) ?_ ?_
    · rintro Dn i acc x H5 H6 nD hi hD la ⟨g5, he5⟩ ⟨rfl, rfl⟩
      walk_at "w"
      refine ⟨rfl, ?_⟩
      walk_at "w"
      refine WK.w_ifP rfl ?_
      walk_at "w"
      refine ⟨WK.sz, fun z nz => ?_⟩
      have gz : Gr [] H6 (upd H6 z (.tup [.str "join", .int (0 + (i : Int))])) := Gr.new nz
      have hDz := gz.k0 hD
      have gD : Gr [Dn] (upd H6 z (.tup [.str "join", .int (0 + (i : Int))])) _ := Gr.mutL (o := .lst (acc ++ [.ref z])) hDz (by simp)
      refine lc_yes hDz la (by omega) ⟨(g5.trans gz).own gD nD, ?_⟩
      rw [List.range_succ, List.map_append]
      exact pr_append ((he5.gr gz).gr gD) (.cons ⟨z, rfl, gD.tup _ _ (by rw [upd_same, Int.zero_add]; rfl)⟩ .nil)
    · rintro f acc H5 nf hf la ⟨g5, he5⟩
      have lo5 := lo4.keep g5 (by simp) (by simp)
      have hb5 := hb4.keep g5 (by simp)
      have g05 := g04.trans (g5.mono (by simp))
      have hw5 := hw4.keep g5 (by simp) (by simp) (by simp)
      have nf3 : H3 f = none := g4.live _ nf
      have fw : f ≠ wa := (ne_of_none hw4.w nf).symm
      have fs : f ≠ sd := by
        obtain ⟨kvs, ks, hs, _⟩ := hw4.s
        exact (ne_of_none hs nf).symm
      have fc : f ≠ cl := (ne_of_none hw4.c nf).symm
      generalize hjs : ((List.range k).map fun p => Ev.join (p : Nat)) = js at he5
      have jlen : js.length = k := by rw [← hjs]; simp
      have jok : ∀ e ∈ js, e.ok := fun e he => by
        rw [← hjs] at he
        obtain ⟨p, hp, rfl⟩ := List.mem_map.mp he
        have := List.mem_range.mp hp
        exact ⟨by omega, by omega⟩
      have jva : Valid .nil js := valid_triv fun e he s => by
        rw [← hjs] at he
        obtain ⟨p, hp, rfl⟩ := List.mem_map.mp he
        trivial
      have jjn : ∀ p : Int, 0 ≤ p → p < k → ((WS.nil.run js).seats p).isSome = true := fun p p0 p1 => run_join (by
        rw [← hjs]
        exact List.mem_map.mpr ⟨p.toNat, List.mem_range.mpr (by omega), by rw [Int.toNat_of_nonneg p0]⟩)
      walk_at "w"
      refine ⟨⟨_, SqL.of hf⟩, lp_list (xs := acc) (fun i σ' H' => ∃ y7, σ' = [some (.ref b), some (.int most), some (.int (k : Int)), some (.int far), some (.ref l), some (.ref wa), some (.ref f), y7, none, none, none, none] ∧ Gr [wa, sd, cl] H5 H' ∧ WAt H' wa sd cl (WS.nil.run (js.take i)) i)
        ⟨none, rfl, Gr.refl _ _, hw5⟩ (fun i σ' H' _ ⟨_, _, g, _⟩ => SqL.of (g.keep _ _ (by simp [fw, fs, fc]) hf)) ?_ ?_⟩
      · rintro i x _ H6 hx ⟨y7, rfl, g6, hw6⟩
        obtain ⟨e, he, hxe⟩ := pr_get he5 hx
        have hi : i < js.length := (List.getElem?_eq_some_iff.mp he).1
        walk_at "w"
        refine use_moved hw6 (by omega) (hxe.gr g6) (valid_take jva i he) fun H7 g7 hw7 => ?_
        refine ⟨_, rfl, g6.trans g7, ?_⟩
        rw [take_snoc he, run_snoc]
        exact hw7
      · rintro _ H6 ⟨y7, rfl, g6, hw6⟩
        have al : acc.length = js.length := he5.length
        rw [al, List.take_length] at hw6
        obtain ⟨l1, l2⟩ := rne nw
        obtain ⟨l3, l4⟩ := rne ns
        obtain ⟨l5, l6⟩ := rne ncl
        obtain ⟨l7, l8⟩ := rne nf3
        have t6 : FtAt H H6 b f wa sd cl l (m + 180) k rs ess js acc :=
          { g := g05.sub (L := [wa, sd, cl]) (g6.mono fun a ha => List.mem_append_left _ ha) (by simp [g03.live _ nw, g03.live _ ns, g03.live _ ncl])
            bx := hb5.keep g6 (by simp [(bne nw).symm, (bne ns).symm, (bne ncl).symm])
            wa := hw6
            fo := g6.keep _ _ (by simp [fw, fs, fc]) hf
            ev := he5.gr g6
            va := jva
            ok := jok
            lo := lo5.keep g6 (by simp [l1.symm, l3.symm, l5.symm]) (fun r hr => by simp [l2 r hr, l4 r hr, l6 r hr])
            jn := jjn
            fl := ⟨nlb, l7.symm, l1.symm, l3.symm, l5.symm⟩
            fr := fun r hr => ⟨nrb r hr, l8 r hr, l2 r hr, l4 r hr, l6 r hr⟩
            rn := fun r hr => g02.live _ (r0 r hr)
            bn := ⟨(bne nf3).symm, (bne nw).symm, (bne ns).symm, (bne ncl).symm⟩
            fn := ⟨fw, fs, fc⟩ }
        have nn : H f = none ∧ H wa = none ∧ H sd = none ∧ H cl = none := ⟨g03.live _ nf3, g03.live _ nw, g03.live _ ns, g03.live _ ncl⟩
        walk_at "w"
        have tot : total ess ≤ 8 := by omega
        clear hw6 g6 hb5 hw5 lo5 g05 g04 hb4 lo4 hw4 g4 g5 he5 jjn hcut hb2 lo3 hb3 g03 g3 rne bne nw ns ncl nf nf3 hf r0 l0 nnb l2 l4 l6 l8
        refine ⟨FitP H b f wa sd cl most far m k, ⟨total ess, l, rs, ess, js, acc, _, _, _, rfl, { t6 with bx := t6.bx.mono (by omega) }, ne3, rfl, by omega⟩, ?_⟩
        clear t6 ne3 to3 l1 l3 l5 l7 nlb nrb
        rintro mm _ H7 ⟨l, rs, ess, es, xs, y7, y8, y9, rfl, t, ne, hm, hlen⟩
        walk_at "w"
        refine ⟨WK.sz, fun z nz => ?_⟩
        have gz : Gr [] H7 (upd H7 z (.lst [])) := Gr.new nz
        have hz : (upd H7 z (.lst [])) z = some (.lst []) := upd_same
        have t8 := t.gr gz
        clear t
        generalize (upd H7 z (.lst [])) = H8 at *
        refine w_neNil (n := 2) (SqL.of t8.lo.l) (lots_dp t8.lo.r t8.lo.en) (lots_sh t8.lo.en) (by decide) hz ?_
        walk_at "w"
        refine ite2 (fun h5 => ?_) (fun h5 => ?_)
        · have rsl : rs.length = ess.length := t8.lo.r.length
          have hc : 0 < rs.length := by
            rw [rsl]
            cases e : ess with
            | nil => rw [e] at h5; simp at h5
            | cons x y => simp
          refine ⟨fun σ' H' => ∃ m', m' < mm ∧ FitP H b f wa sd cl most far m k m' σ' H', fun _ _ z => z, ?_⟩
          have rt : ∀ {ess : List (List Ev)}, (∀ z ∈ ess, z ≠ []) → ess.length ≤ total ess := fun {ess} h => by
            induction ess with
            | nil => exact Nat.le_refl _
            | cons x y ih =>
              have h1 : 0 < x.length := List.length_pos_iff.mpr (h x (by simp))
              have h2 := ih fun z hz => h z (by simp [hz])
              show y.length + 1 ≤ x.length + (y.map List.length).sum
              unfold total at h2
              omega
          have rl := rt ne
          have hl8 := t8.lo.l
          walk_at "w"
          refine use_take (n := m + 12 * mm - 1) (t8.bx.mono (by omega)) (by rw [List.length_map]; omega) (by rw [List.length_map]; omega) (fun r H9 r0 r1 g9 hb9 => ?_)
          rw [List.length_map] at r1
          have t9 := t8.take g9 hb9
          have er : rs[r.toNat]? = some rs[r.toNat] := List.getElem?_eq_getElem (by omega)
          generalize rs[r.toNat] = rr at er
          have rrm : rr ∈ rs := List.mem_of_getElem? er
          obtain ⟨es1, he1, ys, hr9, hy9⟩ := pr_get t9.lo.r er
          obtain ⟨e, es', ees⟩ : ∃ e es', es1 = e :: es' := by
            cases hh : es1 with
            | nil => exact absurd hh (ne es1 (List.mem_of_getElem? he1))
            | cons x y => exact ⟨x, y, rfl⟩
          subst ees
          obtain ⟨v, ys', eys, hv, hy9'⟩ : ∃ v ys', ys = v :: ys' ∧ IsEv H9 v e ∧ Evs H9 ys' es' := by
            cases hy9 with
            | cons h t => exact ⟨_, _, rfl, h, t⟩
          subst eys
          refine ⟨l, _, r, .ref rr, rfl, rfl, SqL.of t9.lo.l, WK.at_ofG (j := r.toNat) (by omega) (by rw [List.getElem?_map, er]; rfl), ?_⟩
          walk_at "w"
          refine ⟨.inl ⟨rfl, xs, SqL.of t9.fo⟩, ?_⟩
          walk_at "w"
          refine ⟨.inl ⟨rfl, _, SqL.of hr9⟩, ?_⟩
          walk_at "w"
          refine ⟨rr, v :: ys', 0, 0, v, rfl, rfl, hr9, by omega, by omega, by simp [seqIndex?], rfl, ?_⟩
          obtain ⟨r1b, r1f, r1w, r1s, r1c⟩ := t9.fr rr rrm
          have gA : Gr [rr] H9 (upd H9 rr (.lst ((v :: ys').eraseIdx 0))) := Gr.mutL hr9 (by simp)
          have hrA : (upd H9 rr (.lst ((v :: ys').eraseIdx 0))) rr = some (.lst ys') := upd_same
          have xl := t9.ev.length
          have hfA := gA.keep _ _ (by simpa using r1f.symm) t9.fo
          generalize (upd H9 rr (.lst ((v :: ys').eraseIdx 0))) = HA at *
          refine ⟨f, xs, v, rfl, rfl, hfA, WK.sz' (by omega), ?_⟩
          have hent : ∀ x ∈ e :: es', x.ent := t9.lo.en _ (List.mem_of_getElem? he1)
          have lo9 := t9.lo
          have lrr : l ≠ rr := fun z => lo9.nl (z ▸ rrm)
          have loA : LotsAt HA l rs (ess.set r.toNat es') := by
            refine ⟨lo9.nd, rows_set gA lo9.r lo9.nd er ⟨ys', hrA, hy9'.gr gA⟩ (fun x hx nx => by simpa using nx), lo9.nl, fun z hz => ?_, gA.keep _ _ (by simpa using lrr) lo9.l⟩
            rcases List.mem_or_eq_of_mem_set hz with h | h
            · exact lo9.en z h
            · subst h
              exact fun x hx => hent x (by simp [hx])
          have tA : FtAt H HA b f wa sd cl l (m + 12 * mm - 1) k rs (ess.set r.toNat es') es xs :=
            { g := t9.g.own (gA.mono (by simp)) (t9.rn rr rrm), bx := t9.bx.keep gA (by simpa using r1b.symm), wa := t9.wa.keep gA (by simpa using r1w.symm) (by simpa using r1s.symm) (by simpa using r1c.symm), fo := hfA, ev := t9.ev.gr gA
              va := t9.va, ok := t9.ok, lo := loA, jn := t9.jn, fl := t9.fl, fr := t9.fr, rn := t9.rn, bn := t9.bn, fn := t9.fn }
          have hvA := hv.gr gA
          have tse := total_set he1
          clear t9 t8 loA lo9 hv hy9 hy9' hr9 gA g9 hb9 hl8 hz h5
          generalize hess1 : ess.set r.toNat es' = ess1 at tA tse
          have gB : Gr [f] HA (upd HA f (.lst (xs ++ [v]))) := Gr.mutL hfA (by simp)
          have hfB : (upd HA f (.lst (xs ++ [v]))) f = some (.lst (xs ++ [v])) := upd_same
          have waB := tA.wa.keep gB (by simpa using tA.fn.1.symm) (by simpa using tA.fn.2.1.symm) (by simpa using tA.fn.2.2.symm)
          have hvB := hvA.gr gB
          generalize (upd HA f (.lst (xs ++ [v]))) = HB at *
          walk_at "w"
          refine ⟨f, _, -1, v, rfl, rfl, SqL.of hfB, (by first | exact atI_last _ _ | exact atI_last), ?_⟩
          walk_at "w"
          refine use_moved waB (by omega) hvB (Ev.ent_fits (hent e (by simp))) fun HC gC hwC => ?_
          have tC := tA.step nn ((gB.mono (by simp)).trans (gC.mono (by simp))) (hvB.gr gC) (Ev.ent_fits (hent e (by simp))) (Ev.ent_ok (hent e (by simp))) hwC (gC.keep _ _ (by simp [tA.fn.1, tA.fn.2.1, tA.fn.2.2]) hfB)
          clear tA gB hfB waB hvB hvA gC hwC hfA hrA
          have esl1 : ess1.length = ess.length := by rw [← hess1, List.length_set]
          generalize hes3 : es ++ [e] = esC at tC
          generalize hxs3 : xs ++ [v] = xsC at tC
          have esCl : esC.length = es.length + 1 := by rw [← hes3, List.length_append]; rfl
          walk_at "w"
          refine ⟨⟨_, SqL.of tC.lo.l⟩, ?_⟩
          refine lc_go (walk_list (K := K) (a := l) (xs := rs.map V.ref)) (fun Dn j acc H' => Gr [] HC H' ∧ ∃ (rs2 : List Addr) (ess2 : List (List Ev)), acc = rs2.map V.ref ∧ rs2.Sublist (rs.take j) ∧ Paired (RowAt HC) rs2 ess2 ∧ total ess2 = total (ess1.take j) ∧ (∀ z ∈ ess2, z ≠ []) ∧ ∀ z ∈ ess2, ∀ e ∈ z, e.ent)
            (fun Dn nD => ⟨Gr.new nD, [], [], rfl, by simp, .nil, rfl, by simp, by simp⟩) (fun Dn j acc H' _ ⟨g, _⟩ => SqL.of (g.k0 tC.lo.l)) ?_ ?_
          · rintro Dn j acc x H5 H6 nD hj hD la ⟨g5, rs2, ess2, rfl, q1, q2, q3, q4, q5⟩ ⟨rfl, hx⟩
            rw [List.length_map] at hj
            have erj : rs[j]? = some rs[j] := List.getElem?_eq_getElem hj
            have ex : x = V.ref rs[j] := by
              rw [List.getElem?_map, erj] at hx
              exact (Option.some.inj hx).symm
            subst ex
            obtain ⟨esj, hej, xsj, hrj, hvj⟩ := pr_get tC.lo.r erj
            have entj := tC.lo.en _ (List.mem_of_getElem? hej)
            walk_at "w"
            refine ⟨rfl, ?_⟩
            walk_at "w"
            refine ⟨WK.sz, fun z nz => ?_⟩
            have gz : Gr [] H6 (upd H6 z (.lst [])) := Gr.new nz
            have g6 := g5.trans gz
            have hDz := gz.k0 hD
            refine w_neNil (n := 1) (SqL.of (g6.k0 hrj)) (evs_dp (hvj.gr g6) fun e q => Ev.ent_kok (entj e q)) (evs_sh (n := 0) fun e q => Ev.ent_kok (entj e q)) (by decide) upd_same ?_
            generalize (upd H6 z (.lst [])) = H7 at *
            walk_at "w"
            have hts : ess1.take (j + 1) = ess1.take j ++ [esj] := take_snoc hej
            refine ite2 (fun h6 => ?_) (fun h6 => ?_)
            · walk_at "w"
              have gD : Gr [Dn] H7 (upd H7 Dn (.lst (rs2.map V.ref ++ [.ref rs[j]]))) := Gr.mutL hDz (by simp)
              refine lc_yes hDz la (by omega) ⟨g6.own gD nD, rs2 ++ [rs[j]], ess2 ++ [esj], by rw [List.map_append]; rfl, ?_, pr_append q2 (.cons ⟨xsj, hrj, hvj⟩ .nil), ?_, ?_, ?_⟩
              · rw [take_snoc erj]
                exact q1.append (List.Sublist.refl _)
              · rw [hts, total_append, total_append, q3]
              · intro y hy
                rcases List.mem_append.mp hy with z' | z'
                · exact q4 y z'
                · rw [List.mem_singleton] at z'
                  subst z'
                  intro e0
                  rw [e0] at h6
                  simp at h6
              · intro y hy
                rcases List.mem_append.mp hy with z' | z'
                · exact q5 y z'
                · rw [List.mem_singleton] at z'
                  subst z'
                  exact entj
            · have e0 : esj = [] := by
                cases hh : esj with
                | nil => rfl
                | cons a c => rw [hh] at h6; simp at h6
              refine lc_no hDz la ⟨g6, rs2, ess2, rfl, ?_, q2, ?_, q4, q5⟩
              · rw [take_snoc erj]
                exact q1.trans (List.sublist_append_left _ _)
              · rw [hts, total_append, e0, q3]
                rfl
          · rintro Dn acc HD nD hD la ⟨gD, rs2, ess2, rfl, q1, q2, q3, q4, q5⟩
            have rl2 : (rs.map V.ref).length = ess1.length := by rw [List.length_map, rsl, esl1]
            rw [rl2, List.take_length] at q3
            have rll : rs.take (rs.map V.ref).length = rs := by rw [List.length_map, List.take_length]
            rw [rll] at q1
            have nDr : Dn ∉ rs2 := fun h => by
              obtain ⟨_, _, _, h1, _⟩ := mem_of_pr q2 h
              rw [nD] at h1
              cases h1
            have ndb : Dn ≠ b := fun h => by
              obtain ⟨_, z⟩ := tC.bx.lst
              rw [← h, nD] at z
              cases z
            have tD := (tC.gr gD).lots (l' := Dn) (rs' := rs2) (ess' := ess2) ⟨q1.nodup tC.lo.nd, rows_keep gD q2 (by simp), nDr, q5, hD⟩
              ⟨ndb, (ne_of_none tC.fo nD).symm, (ne_of_none tC.wa.w nD).symm, (by
                obtain ⟨_, _, hs, _⟩ := tC.wa.s
                exact (ne_of_none hs nD).symm), (ne_of_none tC.wa.c nD).symm⟩ (fun r hr => q1.subset hr)
            clear tC gD q1 nDr ndb nD hD
            have rl3 : rs2.length = ess2.length := q2.length
            have rt2 := rt q4
            walk_at "w"
            refine ⟨⟨_, SqL.of tD.lo.l⟩, ?_⟩
            refine lc_go (walk_list (K := K) (a := Dn) (xs := rs2.map V.ref)) (fun Cn j acc H' => Gr [] HD H' ∧ acc = (ess2.take j).map fun es => V.int ((es.length : Nat) : Int))
              (fun Cn nC => ⟨Gr.new nC, rfl⟩) (fun Cn j acc H' _ ⟨g, _⟩ => SqL.of (g.k0 tD.lo.l)) ?_ ?_
            · rintro Cn j ac x H6 H7 nC hj hC lc ⟨g6, rfl⟩ ⟨rfl, hx⟩
              rw [List.length_map] at hj
              have er : rs2[j]? = some rs2[j] := List.getElem?_eq_getElem hj
              have ex : x = V.ref rs2[j] := by
                rw [List.getElem?_map, er] at hx
                exact (Option.some.inj hx).symm
              subst ex
              obtain ⟨es1, he1, xs1, hr1, hv1⟩ := pr_get tD.lo.r er
              walk_at "w"
              refine ⟨rfl, ?_⟩
              walk_at "w"
              refine WK.w_ifP rfl ?_
              walk_at "w"
              refine w_len (g6.k0 hr1) ?_
              have gD : Gr [Cn] H7 (upd H7 Cn (.lst (((ess2.take j).map fun es => V.int ((es.length : Nat) : Int)) ++ [.int (xs1.length : Nat)]))) := Gr.mutL hC (by simp)
              refine lc_yes hC lc (by omega) ⟨g6.own gD nC, ?_⟩
              rw [take_snoc he1, List.map_append, hv1.length]
              rfl
            · rintro Cn ac HE nC hC lc ⟨gE, rfl⟩
              rw [List.length_map, rl3, List.take_length] at hC
              walk_at "w"
              refine ⟨Cn, ess2.map fun es => ((es.length : Nat) : Int), rfl, SqL.of (by rw [hC, List.map_map]; rfl), ?_⟩
              rw [sum_ints]
              have tE := tD.gr gE
              clear tD gE hC nC
              have gd := Gd.run (es := esC) Gd.nil tE.ok
              walk_at "w"
              refine ⟨b, wa, sd, cl, WS.nil.run esC, 0 + esC.length, m + 12 * (mm - 1), k, rfl, tE.bx.mono (by omega), tE.wa.mono (by omega), by omega, tE.bn.2.2.2, k1, by omega, gd, tE.jn, fun fl xs2 es2 HF tb nfl => ?_⟩
              have tF := tE.take tb.g tb.bx
              have esf : es2.length ≤ k + 1 := tb.len
              have flf : fl ∉ [f, wa, sd, cl] := by
                have z1 := (ne_of_none tE.fo nfl).symm
                have z2 := (ne_of_none tE.wa.w nfl).symm
                have z3 : fl ≠ sd := by
                  obtain ⟨_, _, hs, _⟩ := tE.wa.s
                  exact (ne_of_none hs nfl).symm
                have z4 := (ne_of_none tE.wa.c nfl).symm
                simp [z1, z2, z3, z4]
              clear tE gd
              refine ⟨fl, rfl, ⟨_, SqL.of tb.l⟩, lp_list (xs := xs2) (fun j σ' H' => ∃ y7 es3 xs3, σ' = [some (.ref b), some (.int most), some (.int (k : Int)), some (.int far), some (.ref Dn), some (.ref wa), some (.ref f), y7, some (.ref rr), some (.int ((total ess2 : Nat) : Int)), none, none] ∧
                  FtAt H H' b f wa sd cl Dn (m + 12 * (mm - 1)) k rs2 ess2 es3 xs3 ∧ Gr [f, wa, sd, cl] HF H' ∧ es3.length ≤ esC.length + j ∧ (es3 = esC ++ es2.take j ∨ ¬ ((xs3.length : Nat) : Int) + ((total ess2 : Nat) : Int) + (k : Int) < far))
                ⟨_, esC, xsC, rfl, tF, Gr.refl _ _, Nat.le_refl _, .inl (by simp)⟩ (fun j σ' H' _ ⟨_, _, _, _, _, g, _⟩ => SqL.of (g.keep _ _ flf tb.l)) ?_ ?_⟩
              · rintro j x _ H7 hx ⟨y7, es3, xs3, rfl, t7, g7, l7, alt⟩
                obtain ⟨e2, he2, hxe⟩ := pr_get tb.ev hx
                have hj : j < es2.length := (List.getElem?_eq_some_iff.mp he2).1
                have hf7 := t7.fo
                have xl7 := t7.ev.length
                walk_at "w"
                walk_at "i"
                refine WK.w_2 (fun h7 => ?_) (fun h7 => ?_)
                · have alt := alt.resolve_right (fun z => z h7)
                  subst alt
                  have hfit : (WS.nil.run (esC ++ es2.take j)).fits e2 := by
                    rw [run_append]
                    exact valid_take tb.va j he2
                  walk_at "w"
                  refine use_moved t7.wa (by omega) (hxe.gr g7) hfit fun H8 g8 hw8 => ?_
                  have hf8 := g8.keep _ _ (by simp [t7.fn.1, t7.fn.2.1, t7.fn.2.2]) hf7
                  walk_at "w"
                  refine ⟨.inl ⟨rfl, _, SqL.of hf8⟩, ?_⟩
                  walk_at "w"
                  refine ⟨f, xs3, x, rfl, rfl, hf8, WK.sz' (by omega), ?_⟩
                  have g9 : Gr [f] H8 (upd H8 f (.lst (xs3 ++ [x]))) := Gr.mutL hf8 (by simp)
                  have g79 := (g8.mono (M' := [f, wa, sd, cl]) (by simp)).trans (g9.mono (by simp))
                  have t9 := t7.step nn g79 ((hxe.gr g7).gr g79) hfit (tb.ok e2 (List.mem_of_getElem? he2)) (hw8.keep g9 (by simpa using t7.fn.1.symm) (by simpa using t7.fn.2.1.symm) (by simpa using t7.fn.2.2.symm)) upd_same
                  refine ⟨_, _, _, rfl, t9, g7.trans g79, by rw [List.length_append (as := esC ++ es2.take j), List.length_singleton]; omega, .inl ?_⟩
                  rw [take_snoc he2, List.append_assoc]
                · walk_at "w"
                  exact ⟨_, es3, xs3, rfl, t7, g7, by omega, .inr h7⟩
              · rintro _ H7 ⟨y7, es3, xs3, rfl, t7, g7, l7, alt⟩
                have xl2 : xs2.length = es2.length := tb.ev.length
                exact ⟨mm - 1, by omega, Dn, rs2, ess2, es3, xs3, _, _, _, rfl, t7, q4, by omega, by omega⟩
        · walk_at "w"
          refine ⟨f, xs, rfl, .inl ⟨SqL.of t8.fo, fun y ny => ?_⟩⟩
          have gy : Gr [] H8 (upd H8 y (.tup xs)) := Gr.new ny
          refine use_ended (E := E0) ⟨y, xs, rfl, upd_same, t8.ev.gr gy⟩ t8.va t8.ok (by omega) fun v' H9 es9 g9 tt9 va9 ok9 l9 => ?_
          have g89 := gy.trans g9
          exact q _ _ es9 (t8.g.trans (g89.mono (by simp))) ((t8.bx.keep g89 (by simp)).mono (by omega)) tt9 va9 ok9 (by omega)

end
end PK
namespace PK
open PySem L2
section
variable {P : Program} {w : World} {K : PySem.W.Frag} {mg : Str → Option Value} {base : Heap}
abbrev s_law_drawn : Stmt := topS 32
abbrev N_law_drawn : List Str := ["_law_box_here", "_law_most", "_law_names", "_law_words", "_law_found"]
abbrev ps_law_drawn : List Str := ["_law_box_here", "_law_most"]
theorem sc_law_drawn : FnScope N_law_drawn ps_law_drawn (defScope s_law_drawn) := ⟨rfl, rfl, rfl, by decide +kernel, rfl, by decide +kernel, by decide +kernel⟩
def spDrawn : Sp := fun vs H Q _ => ∃ (b : Addr) (m : Nat) (most : Int), vs = [.ref b, .int most] ∧ Bx H b (m + 220) ∧ 2 ≤ most ∧ most ≤ 8 ∧
  ∀ (v : V) (H' : Hp) (es : List Ev), Gr [b] H H' → Bx H' b m → IsTT H' v es → Valid .nil es → (∀ e ∈ es, e.ok) → es.length ≤ 90 → Q v H'
theorem has_drawn (D : Df K mg "_law_drawn" s_law_drawn ps_law_drawn) (T : Txt mg) (G_law_take : Has P w K mg base 1 "_law_take" ps_law_take spTake) (G_law_of : Has P w K mg base 2 "_law_of" ps_law_of spOf) (G_law_fit : Has P w K mg base 3 "_law_fit" ps_law_fit spFit)
    (G_law_table : Has P w K mg base 4 "_law_table" ps_law_table spTable) (G_law_ended : Has P w K mg base 2 "_law_ended" ps_law_ended spEnded) : Has P w K mg base 5 "_law_drawn" ps_law_drawn spDrawn := Has.mk' D fun f fd F => by
  refine F.ok sc_law_drawn (fun vs H Q E h => ?_) (fun cdv A outer s H vs Q E hr h => ?_)
  · obtain ⟨b, m, most, rfl, _⟩ := h
    rfl
  · obtain ⟨b, m, most, rfl, hb, m2, m8, q⟩ := h
    refine ⟨_, (pss_cons (ps_if (pt_cmpR op_eq (pe_callH G_law_take (hr.mono (by decide)) (by rfl) (pa_cons (pv 0) (pa_cons pe_int pa_nil))) pe_int (nomark _))
  (pss_one (ps_ret (pe_callH G_law_fit (hr.mono (by decide)) (by rfl) (pa_cons (pv 0) (pa_cons (pv 1) (pa_cons (pe_op op_add pe_int (pe_callH G_law_take (hr.mono (by decide)) (by rfl) (pa_cons (pv 0) (pa_cons pe_int pa_nil)))) (pa_cons pe_int pa_nil)))))))
  pss_nil)
(pss_cons (ps_set (i := 2) sc_law_drawn.nd rfl (Or.inl rfl) (pe_slice (sl_listK (K := K)) (pe_lst (pa_cons pe_str (pa_cons pe_str (pa_cons pe_str (pa_cons pe_str pa_nil))))) po_none (po_some (pe_op op_add pe_int (pe_callH G_law_take (hr.mono (by decide)) (by rfl) (pa_cons (pv 0) (pa_cons pe_int pa_nil)))))))
(pss_cons (ps_set (i := 3) sc_law_drawn.nd rfl (Or.inl rfl) (pe_callH G_law_of (hr.mono (by decide)) (by rfl) (pa_cons (pv 0) (pa_cons (pe_lst (pa_cons pe_str (pa_cons pe_str (pa_cons pe_str pa_nil)))) pa_nil))))
(pss_cons (ps_set (i := 4) sc_law_drawn.nd rfl (Or.inl rfl) (pe_callH G_law_table (hr.mono (by decide)) (by rfl) (pa_cons (pv 0) (pa_cons (pe_op op_add pe_int (pe_callH G_law_take (hr.mono (by decide)) (by rfl) (pa_cons (pv 0) (pa_cons pe_int pa_nil)))) (pa_cons (pv 1) (pa_cons (pe_op op_add pe_int (pe_callH G_law_take (hr.mono (by decide)) (by rfl) (pa_cons (pv 0) (pa_cons pe_int pa_nil)))) (pa_cons (pv 2) (pa_cons (pv 3) pa_nil))))))))
(pss_one (ps_ret (pe_ifExp (pt_cmpR op_gt (pe_callH G_law_take (hr.mono (by decide)) (by rfl) (pa_cons (pv 0) (pa_cons pe_int pa_nil))) pe_int (nomark _)) (pe_callH G_law_ended (hr.mono (by decide)) (by rfl) (pa_cons (pv 4) pa_nil)) (pv 4)))))))), ?_⟩
    walk_at "w"
    walk_at "i"
    refine use_take (n := m + 219) hb (by omega) (by omega) (fun r1 H1 r10 r11 g1 hb1 => ?_)
    walk_at "w"
    refine WK.w_2 (fun h1 => ?_) (fun h1 => ?_)
    · walk_at "w"
      refine use_take (n := m + 218) hb1 (by omega) (by omega) (fun r2 H2 r20 r21 g2 hb2 => ?_)
      walk_at "w"
      refine ⟨b, m, (1 + r2).toNat, most, 15, ?_, hb2.mono (by omega), m2, m8, by omega, by omega, fun v H3 es g3 hb3 tt va ok ln => q v H3 es ((g1.trans g2).trans g3) hb3 tt va ok ln⟩
      rw [Int.toNat_of_nonneg (by omega)]
      rfl
    · walk_at "w"
      refine ⟨WK.sz, fun c nc => ?_⟩
      walk_at "w"
      have g2 : Gr [] H1 (upd H1 c (.lst [.str "a", .str "b", .str "cc", .str "abc"])) := Gr.new nc
      have hc2 : (upd H1 c (.lst [.str "a", .str "b", .str "cc", .str "abc"])) c = some (.lst [.str "a", .str "b", .str "cc", .str "abc"]) := upd_same
      have ncb : c ≠ b := fun e => by
        obtain ⟨_, z⟩ := hb1.lst
        rw [← e, nc] at z
        cases z
      have hb2 := hb1.keep g2 (by simp)
      have g02 := g1.trans (g2.mono (by simp))
      generalize (upd H1 c (.lst [.str "a", .str "b", .str "cc", .str "abc"])) = H2 at *
      refine use_take (n := m + 218) hb2 (by omega) (by omega) (fun r3 H3 r30 r31 g3 hb3 => ?_)
      have hc3 := g3.k1 hc2 ncb
      walk_at "w"
      refine ⟨c, _, rfl, SqL.of hc3, fun nl nn => ?_⟩
      obtain ⟨names, en, n0, n4, hkeys⟩ : ∃ names : List Str, cutV [V.str "a", V.str "b", V.str "cc", V.str "abc"] none (some (2 + r3)) = names.map V.str ∧ names ≠ [] ∧ names.length ≤ 4 ∧ ∀ x ∈ names, KeyOk x := by
        have ka : KeyOk "a" := .inl rfl
        have kb : KeyOk "b" := .inr (.inl rfl)
        have kc : KeyOk "cc" := .inr (.inr (.inl rfl))
        have kd : KeyOk "abc" := .inr (.inr (.inr rfl))
        have e : r3 = 0 ∨ r3 = 1 ∨ r3 = 2 := by omega
        rcases e with e | e | e <;> subst e
        · exact ⟨["a", "b"], rfl, by simp, by simp, by simp [ka, kb]⟩
        · exact ⟨["a", "b", "cc"], rfl, by simp, by simp, by simp [ka, kb, kc]⟩
        · exact ⟨["a", "b", "cc", "abc"], rfl, by simp, by simp, by simp [ka, kb, kc, kd]⟩
      rw [en]
      have g4 : Gr [] H3 (upd H3 nl (.lst (names.map V.str))) := Gr.new nn
      have hn4 : (upd H3 nl (.lst (names.map V.str))) nl = some (.lst (names.map V.str)) := upd_same
      have nnb : nl ≠ b := fun e => by
        obtain ⟨_, z⟩ := hb3.lst
        rw [← e, nn] at z
        cases z
      have hb4 := hb3.keep g4 (by simp)
      have g04 := (g02.trans g3).trans (g4.mono (by simp))
      generalize (upd H3 nl (.lst (names.map V.str))) = H4 at *
      walk_at "w"
      refine ⟨WK.sz, fun d ndd => ?_⟩
      walk_at "w"
      have g5 : Gr [] H4 (upd H4 d (.lst [.str "ppdddrrrsl", .str "pdddrrrwwj", .str "ppddrrrrrsllw"])) := Gr.new ndd
      have hd5 : (upd H4 d (.lst [.str "ppdddrrrsl", .str "pdddrrrwwj", .str "ppddrrrrrsllw"])) d = some (.lst [.str "ppdddrrrsl", .str "pdddrrrwwj", .str "ppddrrrrrsllw"]) := upd_same
      have ndb : d ≠ b := fun e => by
        obtain ⟨_, z⟩ := hb4.lst
        rw [← e, ndd] at z
        cases z
      have hb5 := hb4.keep g5 (by simp)
      have hn5 := g5.k0 hn4
      have g05 := g04.trans (g5.mono (by simp))
      generalize (upd H4 d (.lst [.str "ppdddrrrsl", .str "pdddrrrwwj", .str "ppddrrrrrsllw"])) = H5 at *
      refine use_of (n := m + 217) hb5 hd5 ndb (by simp) (by simp) (fun j x H6 hx g6 hb6 => ?_)
      obtain ⟨words, rfl, w0, w1⟩ : ∃ words : Str, x = .str words ∧ 0 < words.length ∧ words.length ≤ 100 := by
        match j, hx with
        | 0, h => exact ⟨_, (Option.some.inj h).symm, by decide +kernel, by decide +kernel⟩
        | 1, h => exact ⟨_, (Option.some.inj h).symm, by decide +kernel, by decide +kernel⟩
        | 2, h => exact ⟨_, (Option.some.inj h).symm, by decide +kernel, by decide +kernel⟩
        | n + 3, h => simp at h
      have hn6 := g6.k1 hn5 nnb
      walk_at "w"
      refine use_take (n := m + 216) hb6 (by omega) (by omega) (fun r7 H7 r70 r71 g7 hb7 => ?_)
      walk_at "w"
      refine use_take (n := m + 215) hb7 (by omega) (by omega) (fun r8 H8 r80 r81 g8 hb8 => ?_)
      walk_at "w"
      refine ⟨b, nl, m + 1, (7 + r7).toNat, most, 1 + r8, names, words, ?_, hb8.mono (by omega), by omega, by omega, by omega, g8.k1 (g7.k1 hn6 nnb) nnb, nnb, n0, by omega, hkeys, w0, w1, fun v H9 es g9 hb9 tt va ok ln => ?_⟩
      · rw [Int.toNat_of_nonneg (by omega)]
        rfl
      have g09 := (((g05.trans g6).trans g7).trans g8).trans g9
      walk_at "w"
      walk_at "i"
      refine use_take (n := m) hb9 (by omega) (by omega) (fun r10 H10 _ _ g10 hb10 => ?_)
      have tt10 := tt.gr g10
      walk_at "w"
      refine WK.w_2 (fun h1 => ?_) (fun h1 => ?_)
      · walk_at "w"
        refine use_ended tt10 va ok (by omega) fun v' H11 es' g11 tt' va' ok' ln' => ?_
        exact q v' H11 es' ((g09.trans g10).trans (g11.mono (by simp))) (hb10.keep g11 (by simp)) tt' va' ok' (by omega)
      · walk_at "w"
        exact q v H10 es (g09.trans g10) hb10 tt10 va ok (by omega)

end
end PK
namespace PK
open PySem L2
section
variable {P : Program} {w : World} {K : PySem.W.Frag} {mg : Str → Option Value} {base : Heap}
abbrev s_law_same : Stmt := topS 13
abbrev N_law_same : List Str := ["_law_found", "_law_due", "_law_mine", "_law_its"]
abbrev ps_law_same : List Str := ["_law_found", "_law_due"]
theorem sc_law_same : FnScope N_law_same ps_law_same (defScope s_law_same) := ⟨rfl, rfl, rfl, by decide +kernel, rfl, by decide +kernel, by decide +kernel⟩
def spSame (K : PySem.W.Frag) (n : Nat) : Sp := fun vs H Q _ => ∃ (x y : V) (d : PyData), vs = [x, y] ∧ Dp K H x d ∧ Dp K H y d ∧ Fine n d ∧ n ≤ 60 ∧ ∀ H', Gr [] H H' → Q (.bl true) H'
theorem same_body (D : Df K mg "_law_same" s_law_same ps_law_same) (T : Txt mg) (n k : Nat) (sp' : Sp) (G_law_same : Has P w K mg base k "_law_same" ps_law_same sp') (imp : ∀ m, n = m + 1 → ∀ vs H Q E, spSame K m vs H Q E → sp' vs H Q E) :
    Has P w K mg base (k + 1) "_law_same" ps_law_same (spSame K n) := Has.mk' D fun f fd F => by
  refine F.ok sc_law_same (fun vs H Q E h => ?_) (fun cdv A outer s H vs Q E hr h => ?_)
  · obtain ⟨x, y, d, rfl, _⟩ := h
    rfl
  · obtain ⟨x, y, d, rfl, hx, hy, hf, hn, q⟩ := h
    refine ⟨_, (pss_cons (ps_if (pt_val (pe_callB (call_isiTK (K := K)) (by rfl) T.m_isinstance (by decide +kernel) (pa_cons (pv 1) (pa_cons (pe_tup (pa_cons (pe_bltn (v := .ty "list") (by rfl) T.m_list (by decide +kernel) rfl) (pa_cons (pe_bltn (v := .ty "tuple") (by rfl) T.m_tuple (by decide +kernel) rfl) pa_nil))) pa_nil))))
  (pss_cons (ps_if (pt_cmpR op_ne (pe_callB (call_isiK' (K := K)) (by rfl) T.m_isinstance (by decide +kernel) (pa_cons (pv 0) (pa_cons (pe_bltn (v := .ty "list") (by rfl) T.m_list (by decide +kernel) rfl) pa_nil))) (pe_callB (call_isiK' (K := K)) (by rfl) T.m_isinstance (by decide +kernel) (pa_cons (pv 1) (pa_cons (pe_bltn (v := .ty "list") (by rfl) T.m_list (by decide +kernel) rfl) pa_nil))) (nomark _))
    (pss_one (ps_ret pe_bl))
    pss_nil)
  (pss_cons (ps_if (pt_cmpR op_ne (pe_callB (call_isiK' (K := K)) (by rfl) T.m_isinstance (by decide +kernel) (pa_cons (pv 0) (pa_cons (pe_bltn (v := .ty "tuple") (by rfl) T.m_tuple (by decide +kernel) rfl) pa_nil))) (pe_callB (call_isiK' (K := K)) (by rfl) T.m_isinstance (by decide +kernel) (pa_cons (pv 1) (pa_cons (pe_bltn (v := .ty "tuple") (by rfl) T.m_tuple (by decide +kernel) rfl) pa_nil))) (nomark _))
    (pss_one (ps_ret pe_bl))
    pss_nil)
  (pss_one (ps_ret (pe_and (pe_cmpR op_eq (pe_callB (call_len_seqK (K := K)) (by rfl) T.m_len (by decide +kernel) (pa_cons (pv 0) pa_nil)) (pe_callB (call_len_seqK (K := K)) (by rfl) T.m_len (by decide +kernel) (pa_cons (pv 1) pa_nil)) (nomark _)) (pe_one (pe_callB (cr_allK (K := K) rfl) (by rfl) T.m_all (by decide +kernel) (pa_cons (pe_lc (own := [("_law_mine", 2), ("_law_its", 3)]) (g := (gTup K 2 (gCons (gName 2) (gCons (gName 3) gNil))))  rfl sc_law_same.nd (RZ.pi_zipA (by rfl) T.m_zip (pa_cons (pv 0) (pa_cons (pv 1) pa_nil))) (blkOk_by (own := [("_law_mine", 2), ("_law_its", 3)]) (N := N_law_same) (sc := defScope s_law_same) (by decide +kernel)) (fun _ _ _ _ _ => (pg_tupK (K := K) rfl (pgs_cons (pg_name (i := 2) sc_law_same.nd rfl (Or.inl rfl)) (pgs_cons (pg_name (i := 3) sc_law_same.nd rfl (Or.inl rfl)) pgs_nil)))) (fun _ _ _ _ _ => pts_nil) (fun _ _ _ _ _ => (pe_callH G_law_same (hr.mono (by first | decide | omega)) (by rfl) (pa_cons (pv 2) (pa_cons (pv 3) pa_nil))))) pa_nil))))))))
  pss_nil)
(pss_cons (ps_if (PW.pt (pw_or (pt_cmpR op_isN (pv 1) pe_non (nomark _)) (pw_or1 (pt_val (pe_callB (call_isiTK (K := K)) (by rfl) T.m_isinstance (by decide +kernel) (pa_cons (pv 1) (pa_cons (pe_tup (pa_cons (pe_bltn (v := .ty "bool") (by rfl) T.m_bool (by decide +kernel) rfl) (pa_cons (pe_bltn (v := .ty "str") (by rfl) T.m_str (by decide +kernel) rfl) pa_nil))) pa_nil)))))))
  (pss_one (ps_ret (pe_and (pe_cmpR (op_eqDK (K := K) hr.units) (pv 0) (pv 1) (nomark _)) (pe_and (pe_cmpR op_eq (pe_callB (call_isiK' (K := K)) (by rfl) T.m_isinstance (by decide +kernel) (pa_cons (pv 0) (pa_cons (pe_bltn (v := .ty "bool") (by rfl) T.m_bool (by decide +kernel) rfl) pa_nil))) (pe_callB (call_isiK' (K := K)) (by rfl) T.m_isinstance (by decide +kernel) (pa_cons (pv 1) (pa_cons (pe_bltn (v := .ty "bool") (by rfl) T.m_bool (by decide +kernel) rfl) pa_nil))) (nomark _)) (pe_one (pe_cmpR op_eq (pe_cmpR op_isN (pv 0) pe_non (nomark _)) (pe_cmpR op_isN (pv 1) pe_non (nomark _)) (nomark _)))))))
  pss_nil)
(pss_one (ps_ret (pe_and (pe_callB (call_isiK' (K := K)) (by rfl) T.m_isinstance (by decide +kernel) (pa_cons (pv 0) (pa_cons (pe_bltn (v := .ty "int") (by rfl) T.m_int (by decide +kernel) rfl) pa_nil))) (pe_and (pe_not (pe_callB (call_isiK' (K := K)) (by rfl) T.m_isinstance (by decide +kernel) (pa_cons (pv 0) (pa_cons (pe_bltn (v := .ty "bool") (by rfl) T.m_bool (by decide +kernel) rfl) pa_nil)))) (pe_one (pe_cmpR (op_eqDK (K := K) hr.units) (pv 0) (pv 1) (nomark _))))))))), ?_⟩
    walk_at "w"
    refine WK.w_if ?_
    walk_at "w"
    refine ⟨WK.sz, fun t nt => ?_⟩
    have g1 : Gr [] H (upd H t (.tup [.ty "list", .ty "tuple"])) := Gr.new nt
    have ht : (upd H t (.tup [.ty "list", .ty "tuple"])) t = some (.tup [.ty "list", .ty "tuple"]) := upd_same
    have hx1 := dp_gr g1 d hx
    have hy1 := dp_gr g1 d hy
    generalize (upd H t (.tup [.ty "list", .ty "tuple"])) = H1 at *
    walk_at "w"
    cases d with
    | dict _ => cases n <;> exact hf.elim
    | none =>
      cases hx; cases hy
      refine w_isi2 hy1 ht (b1 := false) (b2 := false) (by walk_at "k") (by walk_at "k") ?_
      walk_at "w"
      refine WK.w_ifN (by decide) ?_
      walk_at "w"
      walk_at "i"
      walk_at "i"
      refine WK.w_ifP (by decide) ?_
      walk_at "w"
      refine WK.w_ifP (by decide) ?_
      walk_at "w"
      walk_at "i"
      refine w_eqSelf hx1 hy1 hf (by omega) ?_
      walk_at "w"
      refine WK.w_ifP (by decide) ?_
      walk_at "i"
      refine w_isi hx1 (b := false) (by walk_at "k") ?_
      walk_at "w"
      refine w_isi hy1 (b := false) (by walk_at "k") ?_
      walk_at "w"
      refine WK.w_ifP (by decide) ?_
      walk_at "w"
      exact q _ g1
    | bool b =>
      cases hx; cases hy
      refine w_isi2 hy1 ht (b1 := false) (b2 := false) (by walk_at "k") (by walk_at "k") ?_
      walk_at "w"
      refine WK.w_ifN (by decide) ?_
      walk_at "w"
      walk_at "i"
      walk_at "i"
      refine WK.w_ifN (by simp) ?_
      walk_at "w"
      refine ⟨WK.sz, fun t2 nt2 => ?_⟩
      have g2 : Gr [] H1 (upd H1 t2 (.tup [.ty "bool", .ty "str"])) := Gr.new nt2
      have ht2 : (upd H1 t2 (.tup [.ty "bool", .ty "str"])) t2 = some (.tup [.ty "bool", .ty "str"]) := upd_same
      have hx2 := dp_gr g2 _ hx1
      have hy2 := dp_gr g2 _ hy1
      generalize (upd H1 t2 (.tup [.ty "bool", .ty "str"])) = H2 at *
      walk_at "w"
      refine w_isi2 hy2 ht2 (b1 := true) (b2 := false) (by walk_at "k") (by walk_at "k") ?_
      walk_at "w"
      refine WK.w_ifP (by decide) ?_
      walk_at "w"
      walk_at "i"
      refine w_eqSelf hx2 hy2 hf (by omega) ?_
      walk_at "w"
      refine WK.w_ifP (by decide) ?_
      walk_at "i"
      refine w_isi hx2 (b := true) (by walk_at "k") ?_
      walk_at "w"
      refine w_isi hy2 (b := true) (by walk_at "k") ?_
      walk_at "w"
      refine WK.w_ifP (by decide) ?_
      walk_at "w"
      simp only [beq_self_eq_true]
      exact q _ (g1.trans g2)
    | int i =>
      cases hx; cases hy
      refine w_isi2 hy1 ht (b1 := false) (b2 := false) (by walk_at "k") (by walk_at "k") ?_
      walk_at "w"
      refine WK.w_ifN (by decide) ?_
      walk_at "w"
      walk_at "i"
      walk_at "i"
      refine WK.w_ifN (by simp) ?_
      walk_at "w"
      refine ⟨WK.sz, fun t2 nt2 => ?_⟩
      have g2 : Gr [] H1 (upd H1 t2 (.tup [.ty "bool", .ty "str"])) := Gr.new nt2
      have ht2 : (upd H1 t2 (.tup [.ty "bool", .ty "str"])) t2 = some (.tup [.ty "bool", .ty "str"]) := upd_same
      have hx2 := dp_gr g2 _ hx1
      have hy2 := dp_gr g2 _ hy1
      generalize (upd H1 t2 (.tup [.ty "bool", .ty "str"])) = H2 at *
      walk_at "w"
      refine w_isi2 hy2 ht2 (b1 := false) (b2 := false) (by walk_at "k") (by walk_at "k") ?_
      walk_at "w"
      refine WK.w_ifN (by decide) ?_
      walk_at "w"
      walk_at "i"
      refine w_isi hx2 (b := true) (by walk_at "k") ?_
      walk_at "w"
      refine WK.w_ifP rfl ?_
      walk_at "i"
      refine w_isi hx2 (b := false) (by walk_at "k") ?_
      walk_at "w"
      refine WK.w_ifP (by decide) ?_
      walk_at "w"
      refine w_eqSelf hx2 hy2 hf (by omega) ?_
      exact q _ (g1.trans g2)
    | str z =>
      cases hx; cases hy
      refine w_isi2 hy1 ht (b1 := false) (b2 := false) (by walk_at "k") (by walk_at "k") ?_
      walk_at "w"
      refine WK.w_ifN (by decide) ?_
      walk_at "w"
      walk_at "i"
      walk_at "i"
      refine WK.w_ifN (by simp) ?_
      walk_at "w"
      refine ⟨WK.sz, fun t2 nt2 => ?_⟩
      have g2 : Gr [] H1 (upd H1 t2 (.tup [.ty "bool", .ty "str"])) := Gr.new nt2
      have ht2 : (upd H1 t2 (.tup [.ty "bool", .ty "str"])) t2 = some (.tup [.ty "bool", .ty "str"]) := upd_same
      have hx2 := dp_gr g2 _ hx1
      have hy2 := dp_gr g2 _ hy1
      generalize (upd H1 t2 (.tup [.ty "bool", .ty "str"])) = H2 at *
      walk_at "w"
      refine w_isi2 hy2 ht2 (b1 := false) (b2 := true) (by walk_at "k") (by walk_at "k") ?_
      walk_at "w"
      refine WK.w_ifP (by decide) ?_
      walk_at "w"
      walk_at "i"
      refine w_eqSelf hx2 hy2 hf (by omega) ?_
      walk_at "w"
      refine WK.w_ifP (by decide) ?_
      walk_at "i"
      refine w_isi hx2 (b := false) (by walk_at "k") ?_
      walk_at "w"
      refine w_isi hy2 (b := false) (by walk_at "k") ?_
      walk_at "w"
      refine WK.w_ifP (by decide) ?_
      walk_at "w"
      simp only [beq_self_eq_true]
      exact q _ (g1.trans g2)
    | list ds =>
      refine w_isi2 hy1 ht (b1 := true) (b2 := false) (by walk_at "k") (by walk_at "k") ?_
      walk_at "w"
      refine WK.w_ifP (by decide) ?_
      walk_at "w"
      walk_at "i"
      refine w_isi hx1 (b := true) (by walk_at "k") ?_
      walk_at "w"
      refine w_isi hy1 (b := true) (by walk_at "k") ?_
      walk_at "w"
      refine WK.w_ifN (by decide) ?_
      walk_at "w"
      walk_at "i"
      refine w_isi hx1 (b := false) (by walk_at "k") ?_
      walk_at "w"
      refine w_isi hy1 (b := false) (by walk_at "k") ?_
      walk_at "w"
      refine WK.w_ifN (by decide) ?_
      walk_at "w"
      walk_at "i"
      clear hx hy
      cases n with
      | zero => exact hf.elim
      | succ m =>
      obtain ⟨hl, hds⟩ := hf
      cases hx1 with | lst hA hAs =>
      cases hy1 with | lst hB hBs =>
      rename_i a xs b ys
      have lA := dpAll_len hAs
      have lB := dpAll_len hBs
      refine ⟨_, _, rfl, .inl hA, ?_⟩
      walk_at "w"
      refine ⟨_, _, rfl, .inl hB, ?_⟩
      walk_at "w"
      refine WK.w_ifP (by rw [lA, lB]; exact decide_eq_true rfl) ?_
      walk_at "w"
      refine ⟨a, b, xs, ys, rfl, .inl ⟨hA, hB, ?_⟩⟩
      walk_at "w"
      refine lc_go (walk_zip (K := K) (n := xs.length) (by omega)) (fun Dn j acc H' => Gr [] H1 H' ∧ acc = (List.replicate j true).map V.bl)
        (fun Dn nD => ⟨Gr.new nD, rfl⟩) (fun Dn j acc H' _ ⟨g, _⟩ => ⟨sqL_gr g (by simp) hA, sqL_gr g (by simp) hB⟩) ?_ ?_
      · rintro Dn j ac x H5 H6 nD hj hD la ⟨g5, rfl⟩ ⟨T, x1, y1, rfl, nT, rfl, e1, e2⟩
        walk_at "w"
        refine ⟨rfl, ?_⟩
        walk_at "w"
        refine WK.w_ifP rfl ?_
        walk_at "w"
        have gT : Gr [] H5 (upd H5 T (.tup [x1, y1])) := Gr.new nT
        have g6 := g5.trans gT
        obtain ⟨d1, k1, p1⟩ := dpAll_get hAs e1
        obtain ⟨d2, k2, p2⟩ := dpAll_get hBs e2
        rw [k1] at k2
        cases k2
        refine imp m rfl _ _ _ _ ⟨x1, y1, d1, rfl, dp_gr g6 _ p1, dp_gr g6 _ p2, hds _ (List.mem_of_getElem? k1), by omega, fun H6 g7 => ?_⟩
        dsimp only
        have hD6 := (gT.trans g7).k0 hD
        refine lc_yes hD6 la (by omega) ⟨(g6.trans g7).own (Gr.mutL hD6 (by simp)) nD, ?_⟩
        rw [List.replicate_succ', List.map_append]
        rfl
      · rintro Dn ac H5 nD hD la ⟨g5, rfl⟩
        walk_at "w"
        refine ⟨Dn, _, rfl, SqL.of hD, ?_⟩
        rw [List.all_replicate, show (if xs.length = 0 then true else id true) = true from by split <;> rfl]
        exact q _ (g1.trans g5)
    | tuple ds =>
      refine w_isi2 hy1 ht (b1 := false) (b2 := true) (by walk_at "k") (by walk_at "k") ?_
      walk_at "w"
      refine WK.w_ifP (by decide) ?_
      walk_at "w"
      walk_at "i"
      refine w_isi hx1 (b := false) (by walk_at "k") ?_
      walk_at "w"
      refine w_isi hy1 (b := false) (by walk_at "k") ?_
      walk_at "w"
      refine WK.w_ifN (by decide) ?_
      walk_at "w"
      walk_at "i"
      refine w_isi hx1 (b := true) (by walk_at "k") ?_
      walk_at "w"
      refine w_isi hy1 (b := true) (by walk_at "k") ?_
      walk_at "w"
      refine WK.w_ifN (by decide) ?_
      walk_at "w"
      walk_at "i"
      clear hx hy
      cases n with
      | zero => exact hf.elim
      | succ m =>
      obtain ⟨hl, hds⟩ := hf
      cases hx1 with | tup hA hAs =>
      cases hy1 with | tup hB hBs =>
      rename_i a xs b ys
      have lA := dpAll_len hAs
      have lB := dpAll_len hBs
      refine ⟨_, _, rfl, .inr hA, ?_⟩
      walk_at "w"
      refine ⟨_, _, rfl, .inr hB, ?_⟩
      walk_at "w"
      refine WK.w_ifP (by rw [lA, lB]; exact decide_eq_true rfl) ?_
      walk_at "w"
      refine ⟨a, b, xs, ys, rfl, .inr ⟨hA, hB, ?_⟩⟩
      walk_at "w"
      refine lc_go (walk_zT (K := K) (by omega)) (fun Dn j acc H' => Gr [] H1 H' ∧ acc = (List.replicate j true).map V.bl)
        (fun Dn nD => ⟨Gr.new nD, rfl⟩) (fun Dn j acc H' _ ⟨g, _⟩ => ⟨sqT_gr g hA, sqT_gr g hB⟩) ?_ ?_
      · rintro Dn j ac x H5 H6 nD hj hD la ⟨g5, rfl⟩ ⟨T, x1, y1, rfl, nT, rfl, e1, e2⟩
        walk_at "w"
        refine ⟨rfl, ?_⟩
        walk_at "w"
        refine WK.w_ifP rfl ?_
        walk_at "w"
        have gT : Gr [] H5 (upd H5 T (.tup [x1, y1])) := Gr.new nT
        have g6 := g5.trans gT
        obtain ⟨d1, k1, p1⟩ := dpAll_get hAs e1
        obtain ⟨d2, k2, p2⟩ := dpAll_get hBs e2
        rw [k1] at k2
        cases k2
        refine imp m rfl _ _ _ _ ⟨x1, y1, d1, rfl, dp_gr g6 _ p1, dp_gr g6 _ p2, hds _ (List.mem_of_getElem? k1), by omega, fun H6 g7 => ?_⟩
        dsimp only
        have hD6 := (gT.trans g7).k0 hD
        refine lc_yes hD6 la (by omega) ⟨(g6.trans g7).own (Gr.mutL hD6 (by simp)) nD, ?_⟩
        rw [List.replicate_succ', List.map_append]
        rfl
      · rintro Dn ac H5 nD hD la ⟨g5, rfl⟩
        walk_at "w"
        refine ⟨Dn, _, rfl, SqL.of hD, ?_⟩
        rw [List.all_replicate, show (if xs.length = 0 then true else id true) = true from by split <;> rfl]
        exact q _ (g1.trans g5)
theorem has_same (D : Df K mg "_law_same" s_law_same ps_law_same) (T : Txt mg) : ∀ n : Nat, Has P w K mg base (n + 1) "_law_same" ps_law_same (spSame K n)
  | 0 => same_body D T 0 0 (fun _ _ _ _ => False) (Has.bot D 0) (fun m e => by omega)
  | n + 1 => same_body D T (n + 1) (n + 1) (spSame K n) (has_same D T n) (fun m e => by
    obtain rfl : n = m := by omega
    exact fun _ _ _ _ h => h)

end
end PK
namespace PK
open PySem L2
section
variable {P : Program} {w : World} {K : PySem.W.Frag} {mg : Str → Option Value} {base : Heap}
/-! rows of tuples that are written out: all at once -/
section
variable {σ : L2.St} {H : Hp} {Q : VK}
def Pur (σ : L2.St) (t : TA) (vs : List V) : Prop := ∀ (H : Hp) (R : List V → Hp → Prop), R vs H → t σ H R
theorem Pur.nil : Pur σ tNil [] := fun _ _ h => h
theorem Pur.c {t : TA} {v : V} {vs : List V} (h : Pur σ t vs) : Pur σ (tCons (tC v) t) (v :: vs) := fun H _ k => h H _ k
theorem Pur.v {t : TA} {j : Nat} {v : V} {vs : List V} (hj : σ[j]? = some (some v)) (h : Pur σ t vs) : Pur σ (tCons (tVar j) t) (v :: vs) := fun H _ k => ⟨v, hj, h H _ k⟩
inductive Rws (σ : L2.St) : TA → List (List V) → Prop
  | nil : Rws σ tNil []
  | cons {t r : TA} {vs : List V} {vss : List (List V)} : Pur σ t vs → vs.length ≤ 1000 → Rws σ r vss → Rws σ (tCons (tTup t) r) (vs :: vss)
theorem Rws.go {t : TA} {vss : List (List V)} (h : Rws σ t vss) : ∀ (H : Hp) (R : List V → Hp → Prop), (∀ xs H', Gr [] H H' → Tps H' xs vss → R xs H') → t σ H R := by
  induction h with
  | nil => exact fun H R k => k [] H (Gr.refl _ _) .nil
  | cons p l _ ih =>
    intro H R k
    refine p H _ ⟨Nat.le_trans l (by decide), fun a na => ?_⟩
    refine ih _ _ fun xs H' g tp => ?_
    exact k _ H' ((Gr.new na).trans g) (.cons ⟨a, rfl, g.tup _ _ upd_same⟩ tp)
theorem w_tR {t : TA} {vss : List (List V)} (h : Rws σ t vss) (hl : vss.length ≤ 1000) (k : ∀ a xs H', Gr [] H H' → H a = none → H' a = some (.tup xs) → Tps H' xs vss → Q (.ref a) H') : tTup t σ H Q :=
  h.go H _ fun xs H1 g tp => ⟨by rw [tp.length]; exact Nat.le_trans hl (by decide), fun p np => k p xs _ (g.trans (Gr.new np)) (g.live _ np) upd_same (tp.gr (M := []) (Gr.new np))⟩
theorem w_lR {t : TA} {vss : List (List V)} (h : Rws σ t vss) (hl : vss.length ≤ 1000) (k : ∀ a xs H', Gr [] H H' → H a = none → H' a = some (.lst xs) → Tps H' xs vss → Q (.ref a) H') : tLst t σ H Q :=
  h.go H _ fun xs H1 g tp => ⟨by rw [tp.length]; exact Nat.le_trans hl (by decide), fun p np => k p xs _ (g.trans (Gr.new np)) (g.live _ np) upd_same (tp.gr (M := []) (Gr.new np))⟩
theorem tps_rep {xs : List V} {ys : List (List V)} (h : Tps H xs ys) : ∀ n : Nat, Tps H (List.replicate n xs).flatten (List.replicate n ys).flatten
  | 0 => .nil
  | n + 1 => by
    rw [List.replicate_succ, List.replicate_succ, List.flatten_cons, List.flatten_cons]
    exact pr_append h (tps_rep h n)
theorem w_repTT {K : PySem.W.Frag} {l : Addr} {k : Int} {xs : List V} {ys : List (List V)} (h : H l = some (.tup xs)) (tp : Tps H xs ys) (hne : ys ≠ []) (h0 : 0 ≤ k) (h1 : k ≤ 1000) (h2 : ys.length ≤ 1000)
    (q : ∀ p zs H', Gr [] H H' → H' p = some (.tup zs) → Tps H' zs (List.replicate k.toNat ys).flatten → Q (.ref p) H') : rRepA K (.ref l) (.int k) H Q :=
  WK.w_repA h (fun e => by subst e; cases tp; exact hne rfl) h0 h1 (by rw [tp.length]; exact h2) fun p H' g hp => q p _ H' g hp ((tps_rep tp _).gr g)
theorem w_repLL {l : Addr} {k : Int} {xs : List V} {ys : List (List V)} (h : H l = some (.lst xs)) (tp : Tps H xs ys) (h0 : 0 ≤ k) (h1 : k ≤ 1000) (h2 : ys.length ≤ 1000)
    (q : ∀ p zs H', Gr [] H H' → H p = none → H' p = some (.lst zs) → Tps H' zs (List.replicate k.toNat ys).flatten → Q (.ref p) H') : rRep (.ref l) (.int k) H Q :=
  ⟨l, k, xs, rfl, rfl, h, by omega, by omega, Nat.le_trans (Nat.mul_le_mul (show xs.length ≤ 1000 by rw [tp.length]; exact h2) (show k.toNat ≤ 1000 by omega)) (by decide),
    fun p np => q p _ _ (Gr.new np) np upd_same ((tps_rep tp _).gr (M := []) (Gr.new np))⟩
theorem w_catTT {K : PySem.W.Frag} {a b : Addr} {xs zs : List V} {ys ws : List (List V)} (ha : H a = some (.tup xs)) (hb : H b = some (.tup zs)) (ta : Tps H xs ys) (tb : Tps H zs ws) (h1 : ys.length ≤ 1000000) (h2 : ws.length ≤ 1000000)
    (q : ∀ p us H', Gr [] H H' → H' p = some (.tup us) → Tps H' us (ys ++ ws) → Q (.ref p) H') : rCatA K (.ref a) (.ref b) H Q := by
  refine ⟨a, b, xs, zs, rfl, rfl, SqT.of ha, SqT.of hb, ?_, fun e => ?_, fun _ e => ?_, fun _ _ p np => ?_⟩
  · rw [ta.length, tb.length]
    exact Nat.le_trans (Nat.add_le_add h1 h2) (by decide)
  · refine q b zs H (Gr.refl _ _) hb ?_
    have z := pr_append ta tb
    rw [e, List.nil_append] at z
    exact z
  · refine q a xs H (Gr.refl _ _) ha ?_
    have z := pr_append ta tb
    rw [e, List.append_nil] at z
    exact z
  · exact q p _ _ (Gr.new np) upd_same (Tps.gr (M := []) (pr_append ta tb) (Gr.new np))
theorem w_catLL {a b : Addr} {xs zs : List V} {ys ws : List (List V)} (ha : H a = some (.lst xs)) (hb : H b = some (.lst zs)) (ta : Tps H xs ys) (tb : Tps H zs ws) (h1 : ys.length ≤ 1000000) (h2 : ws.length ≤ 1000000)
    (q : ∀ p us H', Gr [] H H' → H p = none → H' p = some (.lst us) → Tps H' us (ys ++ ws) → Q (.ref p) H') : rCat (.ref a) (.ref b) H Q :=
  ⟨a, b, xs, zs, rfl, rfl, ha, hb, by rw [ta.length, tb.length]; exact Nat.le_trans (Nat.add_le_add h1 h2) (by decide), fun p np => q p _ _ (Gr.new np) np upd_same (Tps.gr (M := []) (pr_append ta tb) (Gr.new np))⟩
end

end
end PK
namespace PK
open PySem L2
section
variable {P : Program} {w : World} {K : PySem.W.Frag} {mg : Str → Option Value} {base : Heap}
/-! a longer hold, more guards: less is gone, less is held wrongly -/
section
variable {α β : Type} [DecidableEq α]
theorem getA_nil (a : α) : getA ([] : List (α × β)) a = none := rfl
theorem getA_cons (p : α × β) (l : List (α × β)) (a : α) : getA (p :: l) a = if p.1 = a then some p.2 else getA l a := by
  unfold getA
  rw [List.find?_cons]
  by_cases h : p.1 = a <;> simp [h]
theorem getA_put2 (l : List (α × β)) (a c : α) (b : β) : getA (putA l a b) c = if c = a then some b else getA l c := by
  by_cases h : c = a
  · rw [if_pos h, h, getA_put]
  · rw [if_neg h, getA_off h]
theorem getA_del (l : List (α × β)) (a c : α) : getA (delA l a) c = if c = a then none else getA l c := by
  induction l with
  | nil => simp [delA, getA]
  | cons p l ih =>
    unfold delA at ih ⊢
    rw [List.filter_cons]
    by_cases h : p.1 = a
    · rw [if_neg (by simp [h]), ih, getA_cons]
      by_cases e : c = a
      · rw [if_pos e, if_pos e]
      · rw [if_neg e, if_neg e, if_neg (fun z => e (by rw [← z, h]))]
    · rw [if_pos (by simp [h]), getA_cons, getA_cons, ih]
      by_cases e : c = a
      · rw [if_pos e, if_pos e, if_neg (fun z => h (by rw [z, e]))]
      · rw [if_neg e, if_neg e]
theorem getA_none {l : List (α × β)} {a : α} : getA l a = none ↔ ∀ q ∈ l, q.1 ≠ a := by
  induction l with
  | nil => simp [getA]
  | cons p l ih =>
    rw [getA_cons]
    by_cases h : p.1 = a
    · rw [if_pos h]
      simp [h]
    · rw [if_neg h, ih]
      simp [h]
theorem getA_iff {l : List (α × β)} (nd : (l.map (·.1)).Nodup) {a : α} {b : β} : getA l a = some b ↔ (a, b) ∈ l := by
  refine ⟨getA_in, fun h => ?_⟩
  induction l with
  | nil => cases h
  | cons p l ih =>
    rw [List.map_cons, List.nodup_cons] at nd
    rw [getA_cons]
    rcases List.mem_cons.mp h with e | e
    · subst e
      rw [if_pos rfl]
    · rw [if_neg (fun z => nd.1 (by rw [z]; exact List.mem_map.mpr ⟨_, e, rfl⟩))]
      exact ih nd.2 e
theorem getA_perm {l m : List (α × β)} (p : l.Perm m) (nd : (l.map (·.1)).Nodup) (a : α) : getA l a = getA m a := by
  have nd' : (m.map (·.1)).Nodup := (p.map _).nodup_iff.mp nd
  cases h : getA m a with
  | none =>
    rw [getA_none] at h ⊢
    exact fun q hq => h q (p.mem_iff.mp hq)
  | some b => exact (getA_iff nd).mpr (p.mem_iff.mpr ((getA_iff nd').mp h))
end
theorem mrg_get : ∀ {l acc : List (Str × Int)} {k : Str}, (l.map (·.1)).Nodup → getA (l.foldl (fun t e => putA t e.1 e.2) acc) k = (getA l k).or (getA acc k)
  | [], acc, k, _ => by rw [getA_nil]; rfl
  | e :: l, acc, k, nd => by
    rw [List.map_cons, List.nodup_cons] at nd
    rw [List.foldl_cons, mrg_get nd.2, getA_put2, getA_cons]
    by_cases h : k = e.1
    · subst h
      rw [if_pos rfl, if_pos rfl, show getA l e.1 = none from getA_none.mpr fun q hq z => nd.1 (by rw [← z]; exact List.mem_map.mpr ⟨q, hq, rfl⟩)]
      rfl
    · rw [if_neg h, if_neg (fun z => h z.symm)]
theorem mrgA_get {l : List (Str × Int)} (nd : (l.map (·.1)).Nodup) (k : Str) : getA (mrgA l) k = getA l k := by
  unfold mrgA
  rw [mrg_get nd, getA_nil, Option.or_none]
theorem mrgA_ord {l : List (Str × Int)} (nd : (l.map (·.1)).Nodup) (k : Str) : getA (mrgA (ordS l)) k = getA l k := by
  have nd2 : ((ordS l).map (·.1)).Nodup := ((ordS_perm l).map _).nodup_iff.mpr nd
  rw [mrgA_get nd2, getA_perm (ordS_perm l) nd2]
/-- who holds no more -/
def SubT (t' t : List (Str × Int)) : Prop := ∀ k v, getA t' k = some v → getA t k = some v
theorem SubT.put {t' t : List (Str × Int)} (h : SubT t' t) (a : Str) (b : Int) : SubT (putA t' a b) (putA t a b) := fun k v e => by
  rw [getA_put2] at e ⊢
  split at e
  · rename_i z
    rw [if_pos z]
    exact e
  · rename_i z
    rw [if_neg z]
    exact h k v e
theorem SubT.del {t' t : List (Str × Int)} (h : SubT t' t) (a : Str) : SubT (delA t' a) (delA t a) := fun k v e => by
  rw [getA_del] at e ⊢
  split at e
  · cases e
  · rename_i z
    rw [if_neg z]
    exact h k v e
theorem SubT.del1 {t' t : List (Str × Int)} (h : SubT t' t) (a : Str) : SubT (delA t' a) t := fun k v e => by
  rw [getA_del] at e
  split at e
  · cases e
  · exact h k v e
theorem SubT.step {t' t : List (Str × Int)} (h : SubT t' t) (e : Str × Option Int) : SubT (tabStep t' e) (tabStep t e) := by
  unfold tabStep
  cases e.2 with
  | some v => exact h.put _ _
  | none => exact h.del _
theorem getD_set (g : List Bool) (i j : Nat) : (g.set i true).getD j true = if j = i then true else g.getD j true := by
  rw [List.getD_eq_getElem?_getD, List.getD_eq_getElem?_getD, List.getElem?_set]
  by_cases h : i = j
  · subst h
    rw [if_pos rfl, if_pos rfl]
    by_cases l : i < g.length
    · rw [if_pos l]
      rfl
    · rw [if_neg l]
      rfl
  · rw [if_neg h, if_neg (fun z => h z.symm)]
/-- in the second nothing is gone that is not gone in the first; values alike -/
structure GoR (E : List (Str × Option Int)) (g g' : List Bool) : Prop where
  l : g.length = E.length
  l' : g'.length = E.length
  a : ∀ i, i < E.length → g'.getD i true = true → g.getD i true = true
  b : ∀ i, i < E.length → (E.getD i ("", some 0)).2 ≠ none → g.getD i true = g'.getD i true
theorem GoR.two {E : List (Str × Option Int)} {g g' : List Bool} (h : GoR E g g') (i : Nat) : GoR E (g.set i true) (g'.set i true) := by
  refine ⟨by rw [List.length_set]; exact h.l, by rw [List.length_set]; exact h.l', fun j hj e => ?_, fun j hj e => ?_⟩
  · rw [getD_set] at e ⊢
    split
    · rfl
    · rename_i z
      rw [if_neg z] at e
      exact h.a j hj e
  · rw [getD_set, getD_set]
    split
    · rfl
    · exact h.b j hj e
theorem GoR.one {E : List (Str × Option Int)} {g g' : List Bool} (h : GoR E g g') (i : Nat) (m : (E.getD i ("", some 0)).2 = none) : GoR E (g.set i true) g' := by
  refine ⟨by rw [List.length_set]; exact h.l, h.l', fun j hj e => ?_, fun j hj e => ?_⟩
  · rw [getD_set]
    split
    · rfl
    · exact h.a j hj e
  · rw [getD_set]
    split
    · rename_i z
      exact absurd (by rw [z]; exact m) e
    · exact h.b j hj e
/-- a guard does not hold an entry -/
def LS.okg (s : LS) (i : Int) (g : Str × Int) : Prop := (g.1 = "copy" → g.2 < s.copies.length → i < (s.copies.getD g.2.toNat (0, [])).1) ∧ (g.1 = "reader" → ∀ q, getA s.seats g.2 = some q → i < q)
theorem lt_minP {a b i : Int} : i < minP a b ↔ i < a ∧ i < b := by
  unfold minP
  split <;> omega
theorem lt_near {s : LS} {l i : Int} {g : Str × Int} : i < s.near l g ↔ i < l ∧ s.okg i g := by
  have rd : ∀ l : Int, (i < (match getA s.seats g.2 with | some q => minP l q | none => l)) ↔ i < l ∧ ∀ q, getA s.seats g.2 = some q → i < q := fun l => by
    cases h : getA s.seats g.2 with
    | none => simp
    | some q => rw [lt_minP]; simp
  unfold LS.near LS.okg
  by_cases c : g.1 = "copy"
  · have nr : ¬ g.1 = "reader" := fun z => absurd (c.symm.trans z) (by decide +kernel)
    by_cases k : g.2 < s.copies.length
    · rw [if_pos ⟨c, k⟩, if_neg nr, lt_minP]
      exact ⟨fun h => ⟨h.1, fun _ _ => h.2, fun z => absurd z nr⟩, fun h => ⟨h.1, h.2.1 c k⟩⟩
    · rw [if_neg (fun z => k z.2), if_neg nr]
      exact ⟨fun h => ⟨h, fun _ z => absurd z k, fun z => absurd z nr⟩, fun h => h.1⟩
  · rw [if_neg (fun z => c z.1)]
    by_cases r : g.1 = "reader"
    · rw [if_pos r]
      refine Iff.trans (rd l) ?_
      exact ⟨fun h => ⟨h.1, fun z => absurd z c, fun _ => h.2⟩, fun h => ⟨h.1, h.2.2 r⟩⟩
    · rw [if_neg r]
      exact ⟨fun h => ⟨h, fun z => absurd z c, fun z => absurd z r⟩, fun h => h.1⟩
theorem lt_nears {s : LS} {i : Int} : ∀ {gs : List (Str × Int)} {l : Int}, i < gs.foldl s.near l ↔ i < l ∧ ∀ g ∈ gs, s.okg i g
  | [], l => by simp
  | g :: gs, l => by
    rw [List.foldl_cons, lt_nears, lt_near]
    simp [and_assoc]
theorem lt_least {s : LS} {i : Int} : i < s.least ↔ i < (s.ents.length : Int) ∧ ∀ g ∈ s.guards, s.okg i g := lt_nears
/-- s' keeps at least what s keeps -/
structure Les (s s' : LS) : Prop where
  ho : s.hold ≤ s'.hold
  gu : ∀ g ∈ s.guards, g ∈ s'.guards
  ti : s'.time = s.time
  en : s'.ents = s.ents
  si : s'.since = s.since
  se : s'.seats = s.seats
  kt : s'.tabs.map (·.1) = s.tabs.map (·.1)
  go : GoR s.ents s.gone s'.gone
  ta : ∀ r, SubT ((getA s'.tabs r).getD []) ((getA s.tabs r).getD [])
  cp : s'.copies.map (·.1) = s.copies.map (·.1)
  co : ∀ c, SubT (mrgA (s'.copies.getD c (0, [])).2) (mrgA (s.copies.getD c (0, [])).2)
theorem cp_at {cs ds : List (Int × List (Str × Int))} (h : ds.map (·.1) = cs.map (·.1)) (c : Nat) : (ds.getD c (0, [])).1 = (cs.getD c (0, [])).1 := by
  have e := congrArg (fun l : List Int => l.getD c 0) h
  simp only [List.getD_eq_getElem?_getD, List.getElem?_map] at e ⊢
  cases h1 : ds[c]? <;> cases h2 : cs[c]? <;> rw [h1, h2] at e <;> simpa using e
theorem Les.okg {s s' : LS} (h : Les s s') {i : Int} {g : Str × Int} (k : s'.okg i g) : s.okg i g := by
  have hl : s'.copies.length = s.copies.length := by simpa using congrArg List.length h.cp
  refine ⟨fun c e => ?_, fun c q e => k.2 c q (by rw [h.se]; exact e)⟩
  rw [← cp_at h.cp]
  exact k.1 c (by rw [hl]; exact e)
theorem Les.least {s s' : LS} (h : Les s s') : s'.least ≤ s.least := by
  by_cases e : s'.least ≤ s.least
  · exact e
  · exfalso
    have z : s.least < s'.least := by omega
    rw [lt_least, h.en] at z
    have y : s.least < s.least := lt_least.mpr ⟨z.1, fun g hg => h.okg (z.2 g (h.gu g hg))⟩
    omega
theorem goes_up {h h' t : Int} {o : Option Int} {x : Option Int} (hh : h ≤ h') (e : goes h' t o x = true) : goes h t o x = true := by
  cases o <;> cases x <;> simp only [goes] at e ⊢ <;> first | exact e | skip
  have := of_decide_eq_true e
  exact decide_eq_true (by omega)
theorem goes_mark {h t : Int} {o : Option Int} {x : Option Int} (e : goes h t o x = true) : o = none := by
  cases o <;> cases x <;> simp [goes] at e ⊢
theorem let1_two {s s' : LS} {g g' : List Bool} (ho : s.hold ≤ s'.hold) (ti : s'.time = s.time) (en : s'.ents = s.ents) (si : s'.since = s.since) (r : GoR s.ents g g') (i : Nat) : GoR s.ents (s.let1 g i) (s'.let1 g' i) := by
  unfold LS.let1
  rw [ti, en, si]
  split
  · rename_i z
    split
    · exact r.two i
    · exact r.one i (goes_mark z)
  · rename_i z
    rw [if_neg (fun y => z (goes_up ho y))]
    exact r
theorem let1_one {s : LS} {g g' : List Bool} (r : GoR s.ents g g') (i : Nat) : GoR s.ents (s.let1 g i) g' := by
  unfold LS.let1
  split
  · rename_i z
    exact r.one i (goes_mark z)
  · exact r
theorem lets_two {s s' : LS} (ho : s.hold ≤ s'.hold) (ti : s'.time = s.time) (en : s'.ents = s.ents) (si : s'.since = s.since) : ∀ (L : List Nat) {g g' : List Bool}, GoR s.ents g g' → GoR s.ents (L.foldl s.let1 g) (L.foldl s'.let1 g')
  | [], _, _, r => r
  | i :: L, _, _, r => lets_two ho ti en si L (let1_two ho ti en si r i)
theorem lets_one {s : LS} : ∀ (L : List Nat) {g g' : List Bool}, GoR s.ents g g' → GoR s.ents (L.foldl s.let1 g) g'
  | [], _, _, r => r
  | i :: L, _, _, r => lets_one L (let1_one r i)
theorem Les.marks {s s' : LS} (h : Les s s') : Les s.marks s'.marks := by
  refine ⟨h.ho, h.gu, h.ti, h.en, h.si, h.se, h.kt, ?_, h.ta, h.cp, h.co⟩
  show GoR s.ents s.lets s'.lets
  unfold LS.lets
  have l := h.least
  rw [show s.least.toNat = s'.least.toNat + (s.least.toNat - s'.least.toNat) from by omega, List.range_add, List.foldl_append]
  exact lets_one _ (lets_two h.ho h.ti h.en h.si _ h.go)
theorem Les.endEv {s s' : LS} (h : Les s s') : Les s.endEv s'.endEv := by
  refine Les.marks ⟨h.ho, h.gu, ?_, h.en, h.si, h.se, h.kt, h.go, h.ta, h.cp, h.co⟩
  show s'.time + 1 = s.time + 1
  rw [h.ti]
theorem Les.swept {s s' : LS} (h : Les s s') (m j : Nat) : (s'.swept m j).since = (s.swept m j).since ∧ (s'.swept m j).later = (s.swept m j).later ∧ GoR s.ents (s.swept m j).gone (s'.swept m j).gone := by
  unfold LS.swept
  have key : ∀ (L : List Nat) (x x' : SW), x'.since = x.since ∧ x'.later = x.later ∧ GoR s.ents x.gone x'.gone → (L.foldl (SW.look s') x').since = (L.foldl (SW.look s) x).since ∧ (L.foldl (SW.look s') x').later = (L.foldl (SW.look s) x).later ∧ GoR s.ents (L.foldl (SW.look s) x).gone (L.foldl (SW.look s') x').gone := by
    intro L
    induction L with
    | nil => exact fun _ _ k => k
    | cons i L ih =>
      rintro x x' ⟨k1, k2, k3⟩
      refine ih _ _ ⟨?_, ?_, ?_⟩
      · show (if x'.since.getD i none = none then x'.since.set i (some s'.time) else x'.since) = _
        rw [k1, h.ti]
        rfl
      · show putA x'.later (s'.ent i).1 true = putA x.later (s.ent i).1 true
        unfold LS.ent
        rw [k2, h.en]
      · show GoR s.ents (if (getA x.later (s.ent i).1).isSome = true then x.gone.set i true else x.gone) (if (getA x'.later (s'.ent i).1).isSome = true then x'.gone.set i true else x'.gone)
        unfold LS.ent
        rw [k2, h.en]
        split
        · exact k3.two i
        · exact k3
  refine key _ _ _ ⟨h.si, rfl, h.go⟩
theorem Les.sweep {s s' : LS} (h : Les s s') (u : Int) : Les (s.sweep u) (s'.sweep u) := by
  obtain ⟨k1, _, k3⟩ := h.swept u.toNat u.toNat
  exact Les.marks ⟨h.ho, h.gu, h.ti, h.en, k1, h.se, h.kt, k3, h.ta, h.cp, h.co⟩
theorem map_put {β γ : Type} {l : List (Int × β)} {m : List (Int × γ)} (h : m.map (·.1) = l.map (·.1)) (r : Int) (x : β) (y : γ) : (putA m r y).map (·.1) = (putA l r x).map (·.1) := by
  have e1 : (m.any fun p => decide (p.1 = r)) = (m.map (·.1)).any fun i => decide (i = r) := by rw [List.any_map]; rfl
  have e2 : (l.any fun p => decide (p.1 = r)) = (l.map (·.1)).any fun i => decide (i = r) := by rw [List.any_map]; rfl
  have k : ∀ {δ : Type} (n : List (Int × δ)) (z : δ), (n.map fun p => if p.1 = r then (p.1, z) else p).map (·.1) = n.map (·.1) := fun n z => by
    rw [List.map_map]
    refine List.map_congr_left fun p _ => ?_
    show (if p.1 = r then (p.1, z) else p).1 = p.1
    split <;> rfl
  unfold putA
  rw [e1, e2, h]
  split
  · rw [k, k, h]
  · rw [List.map_append, List.map_append, h]
    rfl
/-- no key twice -/
def Nd (s : LS) : Prop := ∀ r, (((getA s.tabs r).getD []).map (·.1)).Nodup
theorem tabStep_nd {t : List (Str × Int)} (h : (t.map (·.1)).Nodup) (e : Str × Option Int) : ((tabStep t e).map (·.1)).Nodup := by
  unfold tabStep
  cases e.2 with
  | some v => exact put_keys _ _ _ h
  | none => exact List.Sublist.nodup (List.Sublist.map _ List.filter_sublist) h
theorem steps_nd : ∀ {L : List (Str × Option Int)} {t : List (Str × Int)}, (t.map (·.1)).Nodup → ((L.foldl tabStep t).map (·.1)).Nodup
  | [], _, h => h
  | e :: L, _, h => steps_nd (L := L) (tabStep_nd h e)
theorem mrg_nd : ∀ {l acc : List (Str × Int)}, (acc.map (·.1)).Nodup → ((l.foldl (fun t e => putA t e.1 e.2) acc).map (·.1)).Nodup
  | [], _, h => h
  | e :: l, _, h => mrg_nd (l := l) (put_keys _ _ _ h)
theorem Nd.put {s s' : LS} (h : Nd s) {r : Int} {tb : List (Str × Int)} (e : s'.tabs = putA s.tabs r tb) (nd : (tb.map (·.1)).Nodup) : Nd s' := fun i => by
  rw [e, getA_put2]
  split
  · exact nd
  · exact h i
theorem Nd.does {s : LS} (h : Nd s) (e : Ev) : Nd (s.does e) := by
  cases e with
  | put k v => exact h
  | drop k => exact h
  | join r => exact h.put (s' := s.join r) rfl List.nodup_nil
  | read r u => exact h.put (s' := s.read r u) rfl (steps_nd (h r))
  | save r => exact h
  | load r c => exact h.put (s' := s.load r c) rfl (mrg_nd List.nodup_nil)
  | wait => exact h
theorem here_sub {s s' : LS} (h : Les s s') (a u : Int) {t t' : List (Str × Int)} (st : SubT t' t) : ∀ m, m ≤ s.ents.length → SubT ((((s'.here m).filter (inR a u)).map s'.ent).foldl tabStep t') ((((s.here m).filter (inR a u)).map s.ent).foldl tabStep t)
  | 0, _ => st
  | m + 1, hm => by
    have ih := here_sub h a u st m (by omega)
    have ee : s'.ent m = s.ent m := by unfold LS.ent; rw [h.en]
    rw [here_succ, here_succ, List.filter_append, List.filter_append, List.map_append, List.map_append, List.foldl_append, List.foldl_append]
    have cases2 : ∀ b b' : Bool, (b' = true → b = true) → ((s.ent m).2 ≠ none → b = b') → SubT (((((if b' = true then [] else [m]) : List Nat).filter (inR a u)).map s'.ent).foldl tabStep ((((s'.here m).filter (inR a u)).map s'.ent).foldl tabStep t')) (((((if b = true then [] else [m]) : List Nat).filter (inR a u)).map s.ent).foldl tabStep ((((s.here m).filter (inR a u)).map s.ent).foldl tabStep t)) := by
      intro b b' h1 h2
      by_cases q : inR a u m = true
      · cases b with
        | false =>
          cases b' with
          | true => exact absurd (h1 rfl) (by decide)
          | false =>
            simp only [Bool.false_eq_true, if_false, List.filter_cons, q, if_true, List.filter_nil, List.map_cons, List.map_nil, List.foldl_cons, List.foldl_nil, ee]
            exact ih.step _
        | true =>
          cases b' with
          | true => simpa using ih
          | false =>
            have mk : (s.ent m).2 = none := by
              cases e : (s.ent m).2 with
              | none => rfl
              | some v => exact absurd (h2 (by rw [e]; exact Option.some_ne_none v)) (by decide)
            simp only [Bool.false_eq_true, if_false, if_true, List.filter_cons, q, List.filter_nil, List.map_cons, List.map_nil, List.foldl_cons, List.foldl_nil, ee]
            rw [show tabStep ((((s'.here m).filter (inR a u)).map s'.ent).foldl tabStep t') (s.ent m) = delA ((((s'.here m).filter (inR a u)).map s'.ent).foldl tabStep t') (s.ent m).1 from by unfold tabStep; rw [mk]]
            exact ih.del1 _
      · have n1 : ∀ b : Bool, (((if b = true then [] else [m]) : List Nat).filter (inR a u)) = [] := fun b => by cases b <;> simp [q]
        rw [n1, n1]
        exact ih
    refine cases2 _ _ (h.go.a m (by omega)) (fun z => h.go.b m (by omega) fun y => z ?_)
    unfold LS.ent
    rw [List.getD_eq_getElem?_getD] at y ⊢
    rw [List.getElem?_eq_getElem (show m < s.ents.length by omega)] at y ⊢
    exact y
theorem GoR.snoc {E : List (Str × Option Int)} {g g' : List Bool} (h : GoR E g g') (x : Str × Option Int) : GoR (E ++ [x]) (g ++ [false]) (g' ++ [false]) := by
  have at_ : ∀ (g : List Bool), g.length = E.length → ∀ i, i < E.length + 1 → (g ++ [false]).getD i true = if i < E.length then g.getD i true else false := fun g hg i hi => by
    rw [List.getD_eq_getElem?_getD, List.getD_eq_getElem?_getD]
    by_cases z : i < E.length
    · rw [if_pos z, List.getElem?_append_left (by omega)]
    · rw [if_neg z, show i = g.length from by omega, List.getElem?_concat_length]
      rfl
  have l1 := h.l
  have l2 := h.l'
  refine ⟨by simp [l1], by simp [l2], fun i hi e => ?_, fun i hi e => ?_⟩
  · rw [List.length_append, List.length_singleton] at hi
    rw [at_ _ l2 i hi] at e
    rw [at_ _ l1 i hi]
    split at e
    · rename_i z
      rw [if_pos z]
      exact h.a i z e
    · cases e
  · rw [List.length_append, List.length_singleton] at hi
    rw [at_ _ l1 i hi, at_ _ l2 i hi]
    split
    · rename_i z
      refine h.b i z ?_
      rw [List.getD_eq_getElem?_getD] at e ⊢
      rw [List.getElem?_append_left z] at e
      exact e
    · rfl
theorem Les.tab {s s' : LS} (h : Les s s') {r z : Int} {tb tb' : List (Str × Int)} (sb : SubT tb' tb) (t t' : LS) (h1 : t = { s with seats := putA s.seats r z, tabs := putA s.tabs r tb }) (h2 : t' = { s' with seats := putA s'.seats r z, tabs := putA s'.tabs r tb' }) : Les t t' := by
  subst h1 h2
  refine ⟨h.ho, h.gu, h.ti, h.en, h.si, by show putA s'.seats r z = putA s.seats r z; rw [h.se], map_put h.kt r _ _, h.go, fun i => ?_, h.cp, h.co⟩
  show SubT ((getA (putA s'.tabs r tb') i).getD []) ((getA (putA s.tabs r tb) i).getD [])
  rw [getA_put2, getA_put2]
  split
  · exact sb
  · exact h.ta i
theorem Les.does {s s' : LS} (h : Les s s') (nd : Nd s) (nd' : Nd s') (e : Ev) : Les (s.does e) (s'.does e) := by
  have add : ∀ x : Str × Option Int, Les { s with ents := s.ents ++ [x], gone := s.gone ++ [false], since := s.since ++ [none] } { s' with ents := s'.ents ++ [x], gone := s'.gone ++ [false], since := s'.since ++ [none] } := fun x =>
    ⟨h.ho, h.gu, h.ti, by show s'.ents ++ [x] = s.ents ++ [x]; rw [h.en], by show s'.since ++ [none] = s.since ++ [none]; rw [h.si], h.se, h.kt, h.go.snoc x, h.ta, h.cp, h.co⟩
  cases e with
  | put k v => exact (add (k, some v)).endEv
  | drop k => exact (add (k, none)).endEv
  | join r => exact (h.tab (r := r) (z := 0) (tb := []) (tb' := []) (fun _ _ e => e) _ _ rfl rfl).endEv
  | read r u =>
    refine (h.tab (r := r) (z := u) (tb := s.reads r u (s.told r u)) (tb' := s'.reads r u (s'.told r u)) ?_ _ _ rfl rfl).endEv
    have el : s'.ents.length = s.ents.length := by rw [h.en]
    show SubT ((((s'.here s'.ents.length).filter (inR ((getA s'.seats r).getD 0) u)).map s'.ent).foldl tabStep ((getA s'.tabs r).getD [])) ((((s.here s.ents.length).filter (inR ((getA s.seats r).getD 0) u)).map s.ent).foldl tabStep ((getA s.tabs r).getD []))
    rw [h.se, el]
    exact here_sub h _ u (h.ta r) _ (Nat.le_refl _)
  | save r =>
    have hl : s'.copies.length = s.copies.length := by simpa using congrArg List.length h.cp
    refine Les.endEv ⟨h.ho, h.gu, h.ti, h.en, h.si, h.se, h.kt, h.go, h.ta, ?_, fun c => ?_⟩
    · show (s'.copies ++ [((getA s'.seats r).getD 0, s'.tab r)]).map (·.1) = (s.copies ++ [((getA s.seats r).getD 0, s.tab r)]).map (·.1)
      rw [List.map_append, List.map_append, h.cp, h.se]
      rfl
    · show SubT (mrgA ((s'.copies ++ [((getA s'.seats r).getD 0, s'.tab r)]).getD c (0, [])).2) (mrgA ((s.copies ++ [((getA s.seats r).getD 0, s.tab r)]).getD c (0, [])).2)
      rw [List.getD_eq_getElem?_getD, List.getD_eq_getElem?_getD]
      by_cases z : c < s.copies.length
      · rw [List.getElem?_append_left z, List.getElem?_append_left (by omega), ← List.getD_eq_getElem?_getD, ← List.getD_eq_getElem?_getD]
        exact h.co c
      · by_cases y : c = s.copies.length
        · rw [y, List.getElem?_concat_length]
          rw [← hl, List.getElem?_concat_length]
          intro k v e
          have e : getA (mrgA (ordS ((getA s'.tabs r).getD []))) k = some v := e
          show getA (mrgA (ordS ((getA s.tabs r).getD []))) k = some v
          rw [mrgA_ord (nd' r)] at e
          rw [mrgA_ord (nd r)]
          exact h.ta r k v e
        · rw [List.getElem?_eq_none (by rw [List.length_append, List.length_singleton]; omega), List.getElem?_eq_none (by rw [List.length_append, List.length_singleton]; omega)]
          exact fun _ _ e => e
  | load r c =>
    have e1 := cp_at h.cp c.toNat
    refine (h.tab (r := r) (z := (s.copies.getD c.toNat (0, [])).1) (tb := mrgA (s.copies.getD c.toNat (0, [])).2) (tb' := mrgA (s'.copies.getD c.toNat (0, [])).2) (h.co _) _ _ rfl (by rw [e1])).endEv
  | wait => exact h.endEv
theorem Les.runs : ∀ {es : List Ev} {s s' : LS}, Les s s' → Nd s → Nd s' → Les (s.runs es) (s'.runs es) ∧ Nd (s.runs es) ∧ Nd (s'.runs es)
  | [], _, _, h, n, n' => ⟨h, n, n'⟩
  | e :: es, _, _, h, n, n' => Les.runs (es := es) (h.does n n' e) (n.does e) (n'.does e)
theorem Les.to {es : List Ev} {s s' : LS} (h : Les s s') (n : Nd s) (n' : Nd s') (j : Nat) : Les (s.to es j) (s'.to es j) ∧ Nd (s.to es j) ∧ Nd (s'.to es j) := by
  unfold LS.to
  rw [h.ti]
  exact h.runs n n'
theorem Les.swps {es : List Ev} : ∀ {bs : List (Int × Int)} {s s' : LS}, Les s s' → Nd s → Nd s' → Les (s.swps es bs) (s'.swps es bs) ∧ Nd (s.swps es bs) ∧ Nd (s'.swps es bs)
  | [], _, _, h, n, n' => ⟨h, n, n'⟩
  | b :: bs, s, s', h, n, n' => by
    obtain ⟨h1, n1, n1'⟩ := h.to (es := es) n n' b.1.toNat
    exact Les.swps (bs := bs) (h1.sweep b.2) n1 n1'
/-- a Log behind all -/
def finL (es : List Ev) (h : Int) (bs : List (Int × Int)) (gs : List (Str × Int)) : LS := ((LS.new h gs).swps es bs).to es es.length
theorem Les.fin {es : List Ev} {h h' : Int} {bs : List (Int × Int)} {gs gs' : List (Str × Int)} (hh : h ≤ h') (hg : ∀ g ∈ gs, g ∈ gs') : Les (finL es h bs gs) (finL es h' bs gs') := by
  have z : Les (LS.new h gs) (LS.new h' gs') := ⟨hh, hg, rfl, rfl, rfl, rfl, rfl, ⟨rfl, rfl, fun _ z => (by cases z), fun _ z => (by cases z)⟩, fun _ _ _ e => e, rfl, fun _ _ _ e => e⟩
  obtain ⟨h1, n1, n2⟩ := z.swps (es := es) (bs := bs) (fun _ => List.nodup_nil) (fun _ => List.nodup_nil)
  exact (h1.to n1 n2 _).1
theorem mem_wps {s : LS} {r : Int} {k : Str} : (r, k) ∈ s.wps ↔ r ∈ s.tabs.map (·.1) ∧ k ∈ s.wrongs r ((getA s.seats r).getD 0) := by
  unfold LS.wps
  rw [List.mem_flatMap]
  constructor
  · rintro ⟨i, hi, hk⟩
    obtain ⟨k', h1, h2⟩ := List.mem_map.mp hk
    cases h2
    exact ⟨(srtI_perm _).mem_iff.mp hi, h1⟩
  · rintro ⟨h1, h2⟩
    exact ⟨r, (srtI_perm _).mem_iff.mpr h1, List.mem_map.mpr ⟨k, h2, rfl⟩⟩
theorem mem_wrongs {s : LS} {r z : Int} {k : Str} : k ∈ s.wrongs r z ↔ (∃ v, getA ((getA s.tabs r).getD []) k = some v) ∧ s.isd k z = true := by
  unfold LS.wrongs
  rw [List.mem_filter]
  refine and_congr ?_ Iff.rfl
  have e : ∀ x, x ∈ s.tab r ↔ x ∈ (getA s.tabs r).getD [] := fun x => (ordS_perm _).mem_iff
  constructor
  · intro h
    obtain ⟨q, hq, rfl⟩ := List.mem_map.mp h
    cases g : getA ((getA s.tabs r).getD []) q.1 with
    | some v => exact ⟨v, rfl⟩
    | none => exact absurd rfl (getA_none.mp g q ((e q).mp hq))
  · rintro ⟨v, hv⟩
    exact List.mem_map.mpr ⟨(k, v), (e _).mpr (getA_in hv), rfl⟩
theorem Les.wps {s s' : LS} (h : Les s s') : ∀ x ∈ s'.wps, x ∈ s.wps := fun (r, k) hx => by
  obtain ⟨h1, h2⟩ := mem_wps.mp hx
  obtain ⟨⟨v, hv⟩, h3⟩ := mem_wrongs.mp h2
  refine mem_wps.mpr ⟨by rw [← h.kt]; exact h1, mem_wrongs.mpr ⟨⟨v, h.ta r k v hv⟩, ?_⟩⟩
  rw [h.se] at h3
  unfold LS.isd LS.last at h3 ⊢
  rw [h.en] at h3
  exact h3

end
end PK
namespace PK
open PySem L2
section
variable {P : Program} {w : World} {K : PySem.W.Frag} {mg : Str → Option Value} {base : Heap}
/-! who can't be wrong -/
theorem getD_setO {α : Type} (g : List (Option α)) (i j : Nat) (x : Option α) : (g.set i x).getD j none = if j = i ∧ i < g.length then x else g.getD j none := by
  rw [List.getD_eq_getElem?_getD, List.getD_eq_getElem?_getD, List.getElem?_set]
  by_cases h : i = j
  · subst h
    rw [if_pos rfl]
    by_cases l : i < g.length
    · rw [if_pos l, if_pos ⟨rfl, l⟩]
      rfl
    · rw [if_neg l, if_neg (fun z => l z.2), List.getElem?_eq_none (by omega)]
  · rw [if_neg h, if_neg (fun z => h z.1.symm)]
theorem lets_iff {s : LS} {j : Nat} : ∀ {L : List Nat} {g : List Bool}, (L.foldl s.let1 g).getD j true = true ↔ g.getD j true = true ∨ (j ∈ L ∧ goes s.hold s.time (s.ents.getD j ("", some 0)).2 (s.since.getD j none) = true)
  | [], g => by simp
  | i :: L, g => by
    rw [List.foldl_cons, lets_iff]
    unfold LS.let1
    by_cases c : goes s.hold s.time (s.ents.getD i ("", some 0)).2 (s.since.getD i none) = true
    · rw [if_pos c, getD_set]
      by_cases e : j = i
      · subst e
        rw [if_pos rfl]
        exact ⟨fun _ => .inr ⟨List.mem_cons_self, c⟩, fun _ => .inl rfl⟩
      · rw [if_neg e]
        simp [e]
    · rw [if_neg c]
      constructor
      · rintro (h | ⟨h1, h2⟩)
        · exact .inl h
        · exact .inr ⟨List.mem_cons_of_mem _ h1, h2⟩
      · rintro (h | ⟨h1, h2⟩)
        · exact .inl h
        · rcases List.mem_cons.mp h1 with e | e
          · subst e
            exact absurd h2 c
          · exact .inr ⟨e, h2⟩
/-- how far a sweep up to m has come, from above, down to m - j -/
theorem swept_at {s : LS} (hg : s.gone.length = s.ents.length) (hs : s.since.length = s.ents.length) {m : Nat} (hm : m ≤ s.ents.length) : ∀ j, j ≤ m → (s.swept m j).gone.length = s.ents.length ∧ (s.swept m j).since.length = s.ents.length ∧
    (∀ k, (getA (s.swept m j).later k).isSome = true ↔ ∃ i, m - j ≤ i ∧ i < m ∧ (s.ent i).1 = k) ∧
    (∀ i, (s.swept m j).gone.getD i true = true ↔ s.gone.getD i true = true ∨ (m - j ≤ i ∧ ∃ i', i < i' ∧ i' < m ∧ (s.ent i').1 = (s.ent i).1)) ∧
    (∀ i, (s.swept m j).since.getD i none = if m - j ≤ i ∧ i < m ∧ s.since.getD i none = none then some s.time else s.since.getD i none)
  | 0, _ => by
    refine ⟨hg, hs, fun k => ?_, fun i => ?_, fun i => ?_⟩
    · constructor
      · intro h
        cases h
      · rintro ⟨i, h1, h2, _⟩
        omega
    · constructor
      · exact .inl
      · rintro (h | ⟨h1, i', h2, h3, _⟩)
        · exact h
        · omega
    · rw [if_neg (by omega)]
      rfl
  | j + 1, hj => by
    obtain ⟨l1, l2, k1, k2, k3⟩ := swept_at hg hs hm j (by omega)
    have e : s.swept m (j + 1) = (s.swept m j).look s (m - 1 - j) := by
      unfold LS.swept
      rw [List.range_succ, List.map_append, List.foldl_append]
      rfl
    rw [e]
    have hq : m - 1 - j + 1 = m - j := by omega
    generalize m - 1 - j = q at *
    have hqm : q < m := by omega
    have hq1 : m - (j + 1) = q := by omega
    have hq2 : m - j = q + 1 := by omega
    rw [hq1]
    rw [hq2] at k1 k2 k3
    generalize s.swept m j = x at *
    refine ⟨by rw [(look_len s x q).1]; exact l1, by rw [(look_len s x q).2.1]; exact l2, fun k => ?_, fun i => ?_, fun i => ?_⟩
    · show (getA (putA x.later (s.ent q).1 true) k).isSome = true ↔ _
      rw [getA_put2]
      constructor
      · intro h
        split at h
        · rename_i z
          exact ⟨q, Nat.le_refl _, hqm, z.symm⟩
        · obtain ⟨i, h1, h2, h3⟩ := (k1 k).mp h
          exact ⟨i, by omega, h2, h3⟩
      · rintro ⟨i, h1, h2, h3⟩
        split
        · rfl
        · rename_i z
          refine (k1 k).mpr ⟨i, ?_, h2, h3⟩
          have : i ≠ q := fun y => z (by rw [← h3, y])
          omega
    · show (if (getA x.later (s.ent q).1).isSome = true then x.gone.set q true else x.gone).getD i true = true ↔ _
      by_cases c : (getA x.later (s.ent q).1).isSome = true
      · rw [if_pos c, getD_set]
        obtain ⟨i', c1, c2, c3⟩ := (k1 _).mp c
        by_cases e : i = q
        · subst e
          rw [if_pos rfl]
          exact ⟨fun _ => .inr ⟨Nat.le_refl _, i', by omega, c2, c3⟩, fun _ => rfl⟩
        · rw [if_neg e, k2]
          constructor
          · rintro (h | ⟨h1, h2⟩)
            · exact .inl h
            · exact .inr ⟨by omega, h2⟩
          · rintro (h | ⟨h1, h2⟩)
            · exact .inl h
            · exact .inr ⟨by omega, h2⟩
      · rw [if_neg c, k2]
        constructor
        · rintro (h | ⟨h1, h2⟩)
          · exact .inl h
          · exact .inr ⟨by omega, h2⟩
        · rintro (h | ⟨h1, i', h2, h3, h4⟩)
          · exact .inl h
          · by_cases e : i = q
            · subst e
              exact absurd ((k1 _).mpr ⟨i', by omega, h3, h4⟩) c
            · exact .inr ⟨by omega, i', h2, h3, h4⟩
    · show (if x.since.getD q none = none then x.since.set q (some s.time) else x.since).getD i none = _
      by_cases e : i = q
      · subst e
        have z := k3 i
        rw [if_neg (by omega)] at z
        rw [z]
        by_cases y : s.since.getD i none = none
        · rw [if_pos y, if_pos ⟨Nat.le_refl _, hqm, y⟩, getD_setO, if_pos ⟨rfl, by omega⟩]
        · rw [if_neg y, if_neg (fun w => y w.2.2), z]
      · have w : (if x.since.getD q none = none then x.since.set q (some s.time) else x.since).getD i none = x.since.getD i none := by
          split
          · rw [getD_setO, if_neg (fun z => e z.1)]
          · rfl
        rw [w, k3]
        by_cases y : q + 1 ≤ i ∧ i < m ∧ s.since.getD i none = none
        · rw [if_pos y, if_pos ⟨by omega, y.2.1, y.2.2⟩]
        · rw [if_neg y, if_neg (fun z => y ⟨by omega, z.2.1, z.2.2⟩)]
/-- the last entry of a key -/
theorem lastN_iff {l : List (Str × Option Int)} {k : Str} {i : Nat} : ∀ {n : Nat}, lastN l k n = some i ↔ i < n ∧ (l.getD i ("", none)).1 = k ∧ ∀ j, i < j → j < n → (l.getD j ("", none)).1 ≠ k
  | 0 => by simp [lastN]
  | n + 1 => by
    show (if (l.getD n ("", none)).1 = k then some n else lastN l k n) = some i ↔ _
    by_cases e : (l.getD n ("", none)).1 = k
    · rw [if_pos e]
      constructor
      · intro h
        cases h
        exact ⟨by omega, e, fun j h1 h2 => by omega⟩
      · rintro ⟨h1, h2, h3⟩
        by_cases y : i = n
        · rw [y]
        · exact absurd e (h3 n (by omega) (by omega))
    · rw [if_neg e, lastN_iff]
      constructor
      · rintro ⟨h1, h2, h3⟩
        refine ⟨by omega, h2, fun j j1 j2 => ?_⟩
        by_cases y : j = n
        · rw [y]; exact e
        · exact h3 j j1 (by omega)
      · rintro ⟨h1, h2, h3⟩
        have y : i ≠ n := fun z => e (by rw [← z]; exact h2)
        exact ⟨by omega, h2, fun j j1 j2 => h3 j j1 (by omega)⟩
/-- i is the last entry of k, a mark -/
def LS.mark (s : LS) (k : Str) (i : Nat) : Prop := i < s.ents.length ∧ s.ent i = (k, none) ∧ ∀ j, i < j → j < s.ents.length → (s.ent j).1 ≠ k
/-- who has come behind a key's last mark, or came too late for it, does not hold the key -/
def LS.Clean (s : LS) (z : Int) (tb : List (Str × Int)) : Prop := ∀ k i, s.mark k i → ((i : Int) < z ∨ s.gone.getD i true = true) → getA tb k = none
structure Inv (WR : Int → Prop) (WC : Nat → Prop) (s : LS) : Prop where
  gl : s.gone.length = s.ents.length
  sl : s.since.length = s.ents.length
  gs : ∀ i, i < s.ents.length → s.gone.getD i true = true → s.since.getD i none ≠ none
  sg : ∀ i j, j < i → i < s.ents.length → s.since.getD i none ≠ none → (s.ent j).1 = (s.ent i).1 → s.gone.getD j true = true
  st : ∀ i t, s.since.getD i none = some t → 0 ≤ t
  t0 : 0 ≤ s.time
  rd : ∀ r, WR r → s.Clean ((getA s.seats r).getD 0) ((getA s.tabs r).getD [])
  cp : ∀ c, WC c → c < s.copies.length → s.Clean (s.copies.getD c (0, [])).1 (mrgA (s.copies.getD c (0, [])).2)
  sn : ∀ r z, getA s.seats r = some z → z ≤ s.ents.length
  cn : ∀ c, c < s.copies.length → (s.copies.getD c (0, [])).1 ≤ s.ents.length
/-- no mark can go of which a reader or copy that is looked at lags behind -/
def GC (WR : Int → Prop) (WC : Nat → Prop) (s : LS) : Prop :=
  s.time < s.hold ∨ ((∀ r, WR r → (∃ z, getA s.seats r = some z) → (("reader", r) : Str × Int) ∈ s.guards) ∧ ∀ c : Nat, WC c → c < s.copies.length → (("copy", (c : Int)) : Str × Int) ∈ s.guards)
section
variable {WR : Int → Prop} {WC : Nat → Prop}
theorem clean_of {s s' : LS} {z : Int} {tb : List (Str × Int)} (h : s.Clean z tb) (he : s'.ents = s.ents) (hg : ∀ k i, s.mark k i → s'.gone.getD i true = true → (i : Int) < z ∨ s.gone.getD i true = true) : s'.Clean z tb := by
  intro k i hm o
  have m : s.mark k i := by
    unfold LS.mark LS.ent at hm ⊢
    rw [he] at hm
    exact hm
  exact h k i m (o.elim .inl (hg k i m))
theorem Inv.marks {s : LS} (h : Inv WR WC s) (w : s.Well) (gc : GC WR WC s) : Inv WR WC s.marks := by
  have new : ∀ i, s.lets.getD i true = true → s.gone.getD i true = true ∨ ((i : Int) < s.least ∧ goes s.hold s.time (s.ents.getD i ("", some 0)).2 (s.since.getD i none) = true) := fun i e => by
    rcases lets_iff.mp e with z | ⟨z1, z2⟩
    · exact .inl z
    · have := List.mem_range.mp z1
      exact .inr ⟨by omega, z2⟩
  have old : ∀ i, s.gone.getD i true = true → s.lets.getD i true = true := fun i e => lets_iff.mpr (.inl e)
  have got : ∀ i, goes s.hold s.time (s.ents.getD i ("", some 0)).2 (s.since.getD i none) = true → ∃ t, s.since.getD i none = some t ∧ s.hold ≤ s.time - t := fun i e => by
    cases h1 : (s.ents.getD i ("", some 0)).2 <;> cases h2 : s.since.getD i none <;> rw [h1, h2] at e <;> simp only [goes] at e <;> first | exact absurd e (by decide) | skip
    exact ⟨_, rfl, of_decide_eq_true e⟩
  have ll : s.lets.length = s.ents.length := by
    rw [← h.gl]
    unfold LS.lets
    have : ∀ (L : List Nat) (g : List Bool), (L.foldl s.let1 g).length = g.length := by
      intro L
      induction L with
      | nil => exact fun _ => rfl
      | cons i L ih => exact fun g => (ih _).trans (let1_len s g i)
    exact this _ _
  refine ⟨ll, h.sl, fun i hi e => ?_, fun i j h1 h2 h3 h4 => old _ (h.sg i j h1 h2 h3 h4), h.st, h.t0, fun r hr => ?_, fun c hc hl => ?_, h.sn, h.cn⟩
  · rcases new i e with z | ⟨_, z⟩
    · exact h.gs i hi z
    · obtain ⟨t, ht, _⟩ := got i z
      exact fun y => by rw [show s.since.getD i none = none from y] at ht; cases ht
  · by_cases js : ∃ z, getA s.seats r = some z
    · refine clean_of (h.rd r hr) rfl fun k i _ e => ?_
      rcases new i e with z | ⟨z1, z2⟩
      · exact .inr z
      · rcases gc with g | g
        · obtain ⟨t, ht, hh⟩ := got i z2
          have := h.st i t ht
          omega
        · obtain ⟨z, hz⟩ := js
          refine .inl ?_
          show (i : Int) < (getA s.seats r).getD 0
          rw [hz]
          exact ((lt_least.mp z1).2 _ (g.1 r hr ⟨z, hz⟩)).2 rfl z hz
    · have nt : getA s.tabs r = none := by
        cases e : getA s.tabs r with
        | none => rfl
        | some tb => exact absurd (w.w1 r tb e) js
      show LS.Clean _ _ ((getA s.tabs r).getD [])
      rw [nt]
      exact fun _ _ _ _ => rfl
  · refine clean_of (h.cp c hc hl) rfl fun k i _ e => ?_
    rcases new i e with z | ⟨z1, z2⟩
    · exact .inr z
    · rcases gc with g | g
      · obtain ⟨t, ht, hh⟩ := got i z2
        have := h.st i t ht
        omega
      · refine .inl ?_
        have hl : c < s.copies.length := hl
        have q := ((lt_least.mp z1).2 _ (g.2 c hc hl)).1 rfl (show (c : Int) < s.copies.length by omega)
        rw [Int.toNat_natCast] at q
        exact q
theorem Inv.later {s : LS} (h : Inv WR WC s) : Inv WR WC { s with time := s.time + 1 } := ⟨h.gl, h.sl, h.gs, h.sg, h.st, by have := h.t0; show 0 ≤ s.time + 1; omega, h.rd, h.cp, h.sn, h.cn⟩
theorem Inv.endEv {s : LS} (h : Inv WR WC s) (w : s.Well) (gc : GC WR WC { s with time := s.time + 1 }) : Inv WR WC s.endEv := h.later.marks (w.same rfl rfl rfl rfl) gc
theorem Inv.sweep {s : LS} (h : Inv WR WC s) (w : s.Well) (gc : GC WR WC s) {u : Int} (u1 : u ≤ s.ents.length) : Inv WR WC (s.sweep u) := by
  have hm : u.toNat ≤ s.ents.length := by omega
  obtain ⟨l1, l2, _, k2, k3⟩ := swept_at h.gl h.sl hm u.toNat (Nat.le_refl _)
  rw [Nat.sub_self] at k2 k3
  have old : ∀ i, s.gone.getD i true = true → (s.swept u.toNat u.toNat).gone.getD i true = true := fun i e => (k2 i).mpr (.inl e)
  have nm : ∀ k i, s.mark k i → (s.swept u.toNat u.toNat).gone.getD i true = true → s.gone.getD i true = true := fun k i m e => by
    rcases (k2 i).mp e with z | ⟨_, i', z1, z2, z3⟩
    · exact z
    · exact absurd (by rw [z3, m.2.1]) (m.2.2 i' z1 (by omega))
  refine Inv.marks (s := { s with gone := (s.swept u.toNat u.toNat).gone, since := (s.swept u.toNat u.toNat).since }) ⟨l1, l2, fun i hi e => ?_, fun i j h1 h2 h3 h4 => ?_, fun i t e => ?_, h.t0, fun r hr => ?_, fun c hc hl => ?_, h.sn, h.cn⟩ (w.same rfl rfl rfl rfl) gc
  · show (s.swept u.toNat u.toNat).since.getD i none ≠ none
    rw [k3]
    rcases (k2 i).mp e with z | ⟨_, i', z1, z2, z3⟩
    · rw [if_neg (fun y => h.gs i hi z y.2.2)]
      exact h.gs i hi z
    · split
      · exact Option.some_ne_none _
      · rename_i y
        exact fun x => y ⟨Nat.zero_le _, by omega, x⟩
  · have h3 : (s.swept u.toNat u.toNat).since.getD i none ≠ none := h3
    rw [k3] at h3
    show (s.swept u.toNat u.toNat).gone.getD j true = true
    by_cases y : s.since.getD i none = none
    · by_cases x : i < u.toNat
      · exact (k2 j).mpr (.inr ⟨Nat.zero_le _, i, h1, x, h4.symm⟩)
      · rw [if_neg (fun z => x z.2.1)] at h3
        exact absurd y h3
    · exact old j (h.sg i j h1 h2 y h4)
  · have e : (s.swept u.toNat u.toNat).since.getD i none = some t := e
    rw [k3] at e
    split at e
    · cases e
      exact h.t0
    · exact h.st i t e
  · exact clean_of (h.rd r hr) rfl fun k i m e => .inr (nm k i m e)
  · exact clean_of (h.cp c hc hl) rfl fun k i m e => .inr (nm k i m e)
theorem getD_snoc {α : Type} (l : List α) (x d : α) (i : Nat) : (l ++ [x]).getD i d = if i = l.length then x else l.getD i d := by
  rw [List.getD_eq_getElem?_getD, List.getD_eq_getElem?_getD]
  by_cases e : i = l.length
  · rw [if_pos e, e, List.getElem?_concat_length]
    rfl
  · rw [if_neg e]
    by_cases z : i < l.length
    · rw [List.getElem?_append_left z]
    · rw [List.getElem?_eq_none (by rw [List.length_append, List.length_singleton]; omega), List.getElem?_eq_none (by omega)]
theorem Inv.add {s : LS} (h : Inv WR WC s) (x : Str × Option Int) : Inv WR WC { s with ents := s.ents ++ [x], gone := s.gone ++ [false], since := s.since ++ [none] } := by
  have gl := h.gl
  have sl := h.sl
  have n1 : (s.ents ++ [x]).length = s.ents.length + 1 := by rw [List.length_append, List.length_singleton]
  have gg : ∀ i, (s.gone ++ [false]).getD i true = true → i ≠ s.ents.length ∧ s.gone.getD i true = true := fun i e => by
    rw [getD_snoc] at e
    split at e
    · cases e
    · rename_i z
      exact ⟨by omega, e⟩
  have go : ∀ i, i < s.ents.length → s.gone.getD i true = true → (s.gone ++ [false]).getD i true = true := fun i hi e => by
    rw [getD_snoc, if_neg (by omega)]
    exact e
  have ss : ∀ i y, (s.since ++ [none]).getD i none = some y → s.since.getD i none = some y := fun i y e => by
    rw [getD_snoc] at e
    split at e
    · cases e
    · exact e
  have so : ∀ i, i < s.ents.length → (s.since ++ [none]).getD i none = s.since.getD i none := fun i hi => by rw [getD_snoc, if_neg (by omega)]
  have en : ∀ i, i < s.ents.length → (s.ents ++ [x]).getD i ("", none) = s.ent i := fun i hi => by
    rw [getD_snoc, if_neg (by omega)]
    rfl
  have cl : ∀ z tb, z ≤ (s.ents.length : Int) → s.Clean z tb → LS.Clean { s with ents := s.ents ++ [x], gone := s.gone ++ [false], since := s.since ++ [none] } z tb := fun z tb hz c k i m o => by
    obtain ⟨m1, m2, m3⟩ := m
    have m1 : i < (s.ents ++ [x]).length := m1
    have m2 : (s.ents ++ [x]).getD i ("", none) = (k, none) := m2
    have m3 : ∀ j, i < j → j < (s.ents ++ [x]).length → ((s.ents ++ [x]).getD j ("", none)).1 ≠ k := m3
    have hi : i < s.ents.length := by
      rcases o with o | o
      · omega
      · have := (gg i o).1
        omega
    refine c k i ⟨hi, by rw [← m2, en i hi], fun j j1 j2 => ?_⟩ (o.elim .inl fun o => .inr (gg i o).2)
    rw [← en j j2]
    exact m3 j j1 (by omega)
  refine ⟨by show (s.gone ++ [false]).length = (s.ents ++ [x]).length; rw [n1, List.length_append, List.length_singleton, gl], by show (s.since ++ [none]).length = (s.ents ++ [x]).length; rw [n1, List.length_append, List.length_singleton, sl], fun i hi e => ?_, fun i j h1 h2 h3 h4 => ?_, fun i t e => h.st i t (ss i t e), h.t0, fun r hr => ?_, fun c hc hl => cl _ _ (h.cn c hl) (h.cp c hc hl), fun r z e => ?_, fun c hl => ?_⟩
  · have hi : i < (s.ents ++ [x]).length := hi
    obtain ⟨e1, e2⟩ := gg i e
    show (s.since ++ [none]).getD i none ≠ none
    rw [so i (by omega)]
    exact h.gs i (by omega) e2
  · have h2 : i < (s.ents ++ [x]).length := h2
    have h3 : (s.since ++ [none]).getD i none ≠ none := h3
    have h4 : ((s.ents ++ [x]).getD j ("", none)).1 = ((s.ents ++ [x]).getD i ("", none)).1 := h4
    have hi : i < s.ents.length := by
      by_cases z : i = s.ents.length
      · exact absurd (by rw [getD_snoc, if_pos (by omega)]) h3
      · omega
    rw [so i hi] at h3
    rw [en i hi, en j (by omega)] at h4
    exact go j (by omega) (h.sg i j h1 hi h3 h4)
  · refine cl _ _ ?_ (h.rd r hr)
    cases e : getA s.seats r with
    | none => show (0 : Int) ≤ _; omega
    | some z => exact h.sn r z e
  · have := h.sn r z e
    show z ≤ ((s.ents ++ [x]).length : Int)
    omega
  · have := h.cn c hl
    show (s.copies.getD c (0, [])).1 ≤ ((s.ents ++ [x]).length : Int)
    omega
theorem Inv.tab {s : LS} (h : Inv WR WC s) {r z : Int} {tb : List (Str × Int)} (hz : z ≤ s.ents.length) (hc : WR r → s.Clean z tb) : Inv WR WC { s with seats := putA s.seats r z, tabs := putA s.tabs r tb } := by
  refine ⟨h.gl, h.sl, h.gs, h.sg, h.st, h.t0, fun i hi => ?_, h.cp, fun i y e => ?_, h.cn⟩
  · show LS.Clean _ ((getA (putA s.seats r z) i).getD 0) ((getA (putA s.tabs r tb) i).getD [])
    rw [getA_put2, getA_put2]
    by_cases e : i = r
    · rw [if_pos e, if_pos e]
      exact hc (e ▸ hi)
    · rw [if_neg e, if_neg e]
      exact h.rd i hi
  · have e : getA (putA s.seats r z) i = some y := e
    rw [getA_put2] at e
    split at e
    · cases e
      exact hz
    · exact h.sn i y e
/-- what is read: a key whose last mark is among it, or is behind already -/
theorem read_clean {s : LS} (h : Inv WR WC s) {z u : Int} {tb : List (Str × Int)} (hc : s.Clean z tb) : s.Clean u (((s.there.filter (inR z u)).map s.ent).foldl tabStep tb) := by
  intro k i m o
  have step : ∀ (t : List (Str × Int)) (j : Nat), getA t k = none → ¬ ((s.ent j).1 = k ∧ (s.ent j).2 ≠ none) → getA (tabStep t (s.ent j)) k = none := fun t j e n => by
    unfold tabStep
    cases v : (s.ent j).2 with
    | none =>
      show getA (delA t (s.ent j).1) k = none
      rw [getA_del]
      split
      · rfl
      · exact e
    | some v' =>
      show getA (putA t (s.ent j).1 v') k = none
      rw [getA_put2, if_neg (fun y => n ⟨y.symm, by rw [v]; exact Option.some_ne_none _⟩)]
      exact e
  have snoc : ∀ j, ((s.here (j + 1)).filter (inR z u)).map s.ent = ((s.here j).filter (inR z u)).map s.ent ++ (if s.gone.getD j true = false ∧ inR z u j = true then [s.ent j] else []) := fun j => by
    rw [here_succ, List.filter_append, List.map_append]
    congr 1
    cases s.gone.getD j true <;> cases e : inR z u j <;> simp [e]
  obtain ⟨m1, m2, m3⟩ := m
  by_cases b : (i : Int) < z ∨ s.gone.getD i true = true
  · have base := hc k i ⟨m1, m2, m3⟩ b
    have all : ∀ j, j ≤ s.ents.length → getA ((((s.here j).filter (inR z u)).map s.ent).foldl tabStep tb) k = none := by
      intro j
      induction j with
      | zero => exact fun _ => base
      | succ j ih =>
        intro hj
        rw [snoc, List.foldl_append]
        split
        · rename_i y
          refine step _ j (ih (by omega)) fun ⟨y1, y2⟩ => ?_
          have zj : z ≤ (j : Int) := by
            have := y.2
            unfold inR at this
            rw [Bool.and_eq_true] at this
            exact of_decide_eq_true this.1
          rcases Nat.lt_trichotomy j i with c | c | c
          · have gj : s.gone.getD j true = true := by
              rcases b with b | b
              · omega
              · exact h.sg i j c m1 (h.gs i m1 b) (by rw [y1, m2])
            rw [gj] at y
            exact absurd y.1 (by decide)
          · rw [c, m2] at y2
            exact y2 rfl
          · exact m3 j c (by omega) y1
        · exact ih (by omega)
    exact all _ (Nat.le_refl _)
  · have b1 : z ≤ (i : Int) := by
      by_cases y : (i : Int) < z
      · exact absurd (.inl y) b
      · omega
    have b2 : s.gone.getD i true = false := by
      cases y : s.gone.getD i true with
      | false => rfl
      | true => exact absurd (.inr y) b
    have iu : (i : Int) < u := o.elim id fun y => by rw [b2] at y; cases y
    have all : ∀ j, i < j → j ≤ s.ents.length → getA ((((s.here j).filter (inR z u)).map s.ent).foldl tabStep tb) k = none := by
      intro j
      induction j with
      | zero => exact fun y => absurd y (by omega)
      | succ j ih =>
        intro ij hj
        rw [snoc, List.foldl_append]
        by_cases c : j = i
        · subst c
          have q : inR z u j = true := by unfold inR; rw [decide_eq_true b1, decide_eq_true iu]; rfl
          rw [if_pos ⟨b2, q⟩]
          show getA (tabStep _ (s.ent j)) k = none
          rw [m2]
          show getA (delA _ k) k = none
          rw [getA_del, if_pos rfl]
        · split
          · exact step _ j (ih (by omega) (by omega)) fun ⟨y1, _⟩ => m3 j (by omega) (by omega) y1
          · exact ih (by omega) (by omega)
    exact all _ m1 (Nat.le_refl _)
/-- what an event asks of who is looked at -/
def EvW (WR : Int → Prop) (WC : Nat → Prop) (s : LS) : Ev → Prop
  | .save r => WC s.copies.length → WR r
  | .load r c => WR r → WC c.toNat
  | _ => True
theorem Inv.does {s : LS} (h : Inv WR WC s) (w : s.Well) {e : Ev} (f : s.fits e) (ew : EvW WR WC s e) (gc : GC WR WC (s.does e)) : Inv WR WC (s.does e) := by
  cases e with
  | put k v => exact (h.add (k, some v)).endEv ((w.does (.put k v)).same rfl rfl rfl rfl) gc
  | drop k => exact (h.add (k, none)).endEv ((w.does (.drop k)).same rfl rfl rfl rfl) gc
  | join r => exact (h.tab (r := r) (z := 0) (tb := []) (by omega) fun _ _ _ _ _ => rfl).endEv ((w.does (.join r)).same rfl rfl rfl rfl) gc
  | read r u =>
    obtain ⟨z, tb, hz, ht, zu, un⟩ := f
    refine (h.tab (r := r) (z := u) (tb := s.reads r u (s.told r u)) un fun hr => ?_).endEv ((w.does (.read r u)).same rfl rfl rfl rfl) gc
    exact read_clean h (h.rd r hr)
  | save r =>
    obtain ⟨z, tb, hz, ht⟩ := f
    have cd : ∀ c, (s.copies ++ [((getA s.seats r).getD 0, s.tab r)]).getD c (0, []) = if c = s.copies.length then ((getA s.seats r).getD 0, s.tab r) else s.copies.getD c (0, []) := fun c => getD_snoc _ _ _ _
    have cl : ∀ c, c < (s.copies ++ [((getA s.seats r).getD 0, s.tab r)]).length → c ≠ s.copies.length → c < s.copies.length := fun c h1 h2 => by
      rw [List.length_append, List.length_singleton] at h1
      omega
    refine Inv.endEv (s := { s with copies := s.copies ++ [((getA s.seats r).getD 0, s.tab r)] }) ⟨h.gl, h.sl, h.gs, h.sg, h.st, h.t0, h.rd, fun c hc hl => ?_, h.sn, fun c hl => ?_⟩ ((w.does (.save r)).same rfl rfl rfl rfl) gc
    · show LS.Clean _ ((s.copies ++ [((getA s.seats r).getD 0, s.tab r)]).getD c (0, [])).1 (mrgA ((s.copies ++ [((getA s.seats r).getD 0, s.tab r)]).getD c (0, [])).2)
      rw [cd]
      by_cases y : c = s.copies.length
      · rw [if_pos y]
        have cr := h.rd r (ew (y ▸ hc))
        intro k i m o
        have q := cr k i m o
        rw [getA_none] at q ⊢
        intro e he
        rcases mrg_mem he with z | ⟨e', e1, e2⟩
        · cases z
        · rw [← e2]
          exact q e' ((ordS_perm _).mem_iff.mp e1)
      · rw [if_neg y]
        exact h.cp c hc (cl c hl y)
    · show ((s.copies ++ [((getA s.seats r).getD 0, s.tab r)]).getD c (0, [])).1 ≤ _
      rw [cd]
      by_cases y : c = s.copies.length
      · rw [if_pos y, hz]
        exact h.sn r z hz
      · rw [if_neg y]
        exact h.cn c (cl c hl y)
  | load r c =>
    obtain ⟨c0, c1⟩ := f
    have cl : c.toNat < s.copies.length := by omega
    exact (h.tab (r := r) (z := (s.copies.getD c.toNat (0, [])).1) (tb := mrgA (s.copies.getD c.toNat (0, [])).2) (h.cn _ cl) fun hr => h.cp _ (ew hr) cl).endEv ((w.does (.load r c)).same rfl rfl rfl rfl) gc
  | wait => exact h.endEv w gc
theorem Inv.new (h : Int) (gs : List (Str × Int)) : Inv WR WC (LS.new h gs) :=
  ⟨rfl, rfl, fun _ z => (by cases z), fun _ _ _ z => (by cases z), fun i t e => (by cases e), Int.le_refl _, fun _ _ _ _ _ _ => rfl, fun _ _ z => (by cases z), fun _ _ e => (by cases e), fun _ z => (by cases z)⟩
theorem Inv.safe {s : LS} (h : Inv WR WC s) {r : Int} {k : Str} (hr : WR r) : (r, k) ∉ s.wps := fun hx => by
  obtain ⟨_, h2⟩ := mem_wps.mp hx
  obtain ⟨⟨v, hv⟩, h3⟩ := mem_wrongs.mp h2
  unfold LS.isd at h3
  split at h3
  · rename_i i hi
    rw [Bool.and_eq_true] at h3
    have iz := of_decide_eq_true h3.1
    obtain ⟨l1, l2, l3⟩ := lastN_iff.mp (show lastN s.ents k s.ents.length = some i from hi)
    have m : s.mark k i := ⟨l1, Prod.ext l2 (Option.isNone_iff_eq_none.mp h3.2), l3⟩
    rw [h.rd r hr k i m (.inl iz)] at hv
    cases hv
  · cases h3
end

end
end PK
namespace PK
open PySem L2
section
variable {P : Program} {w : World} {K : PySem.W.Frag} {mg : Str → Option Value} {base : Heap}
/-! behind all -/
theorem Far.does {es : List Ev} {s : LS} {k : Nat} {e : Ev} (f : Far es s k) (he : es[k]? = some e) : Far es (s.does e) (k + 1) := by
  have hl := (List.getElem?_eq_some_iff.mp he).1
  refine ⟨by rw [LS.does_time, f.t]; rfl, hl, ?_⟩
  rw [take_snoc he, run_snoc]
  exact f.m.does e
theorem far_to {P : Nat → LS → Prop} {es : List Ev} (hd : ∀ k s e, es[k]? = some e → Far es s k → P k s → P (k + 1) (s.does e)) {s : LS} {k : Nat} (f : Far es s k) (p : P k s) : ∀ d, k + d ≤ es.length → Far es (s.runs ((es.drop k).take d)) (k + d) ∧ P (k + d) (s.runs ((es.drop k).take d))
  | 0, _ => ⟨f, p⟩
  | d + 1, hl => by
    obtain ⟨f1, p1⟩ := far_to hd f p d (by omega)
    have he : es[k + d]? = some (es[k + d]'(by omega)) := List.getElem?_eq_getElem _
    have he2 : (es.drop k)[d]? = some (es[k + d]'(by omega)) := by rw [List.getElem?_drop]; exact he
    rw [take_snoc he2, LS.runs_append]
    exact ⟨f1.does he, hd _ _ _ he f1 p1⟩
theorem far_swps {P : Nat → LS → Prop} {es : List Ev} (hd : ∀ k s e, es[k]? = some e → Far es s k → P k s → P (k + 1) (s.does e)) (hs : ∀ k s u, Far es s k → 0 ≤ u → u ≤ (s.ents.length : Int) → P k s → P k (s.sweep u)) :
    ∀ {bs : List (Int × Int)} {s : LS} {k : Nat}, SwOk es bs → (∀ b ∈ bs, (k : Int) ≤ b.1) → Far es s k → P k s → ∃ k', Far es (s.swps es bs) k' ∧ P k' (s.swps es bs)
  | [], s, k, _, _, f, p => ⟨k, f, p⟩
  | b :: bs, s, k, ok, kb, f, p => by
    obtain ⟨o1, o2, o3, o4⟩ := ok.at_ b List.mem_cons_self
    have k1 := kb b List.mem_cons_self
    obtain ⟨f1, p1⟩ := far_to hd f p (b.1.toNat - k) (by omega)
    rw [show k + (b.1.toNat - k) = b.1.toNat from by omega] at f1 p1
    have e : s.to es b.1.toNat = s.runs ((es.drop k).take (b.1.toNat - k)) := by
      unfold LS.to
      rw [f.t, Int.toNat_natCast]
    have pw := List.pairwise_cons.mp ok.up
    show ∃ k', Far es ((LS.swp es s b).swps es bs) k' ∧ P k' ((LS.swp es s b).swps es bs)
    unfold LS.swp
    rw [e]
    refine far_swps (bs := bs) hd hs (k := b.1.toNat) ⟨pw.2, fun c hc => ok.at_ c (List.mem_cons_of_mem _ hc)⟩ (fun c hc => ?_) (f1.swp b.2) (hs _ _ _ f1 o3 (by rw [f1.m.en]; exact o4) p1)
    have := pw.1 c hc
    omega
theorem ind_fin {P : Nat → LS → Prop} {es : List Ev} {bs : List (Int × Int)} {h : Int} {gs : List (Str × Int)} (ok : SwOk es bs) (h0 : P 0 (LS.new h gs)) (hd : ∀ k s e, es[k]? = some e → Far es s k → P k s → P (k + 1) (s.does e)) (hs : ∀ k s u, Far es s k → 0 ≤ u → u ≤ (s.ents.length : Int) → P k s → P k (s.sweep u)) :
    Far es (finL es h bs gs) es.length ∧ P es.length (finL es h bs gs) := by
  obtain ⟨k, f, p⟩ := far_swps hd hs ok (fun b hb => (ok.at_ b hb).1) ⟨rfl, Nat.zero_le _, Sim.nil h gs⟩ h0
  obtain ⟨f1, p1⟩ := far_to hd f p (es.length - k) (by have := f.l; omega)
  rw [show k + (es.length - k) = es.length from by have := f.l; omega] at f1 p1
  unfold finL LS.to
  rw [f.t, Int.toNat_natCast]
  exact ⟨f1, p1⟩
theorem fits_at {es : List Ev} (v : Valid .nil es) {k : Nat} {s : LS} {e : Ev} (he : es[k]? = some e) (f : Far es s k) : s.fits e := f.m.fits (valid_take v k he)
theorem safe_fin {WR : Int → Prop} {WC : Nat → Prop} {es : List Ev} {bs : List (Int × Int)} {h : Int} {gs : List (Str × Int)} (v : Valid .nil es) (ok : SwOk es bs) (G : ∀ k s, Far es s k → s.hold = h → s.guards = gs → GC WR WC s) (E : ∀ k s e, es[k]? = some e → Far es s k → EvW WR WC s e) {r : Int} {k : Str} (hr : WR r) : (r, k) ∉ (finL es h bs gs).wps := by
  have z := ind_fin (P := fun _ s => Inv WR WC s ∧ s.Well ∧ s.hold = h ∧ s.guards = gs) (h := h) (gs := gs) ok ⟨Inv.new h gs, ⟨fun r tb e => (by cases e), (by intro _ z; cases z), (by intro _ z; cases z)⟩, rfl, rfl⟩ (fun k s e he f ⟨i, w, a, b⟩ => by
    have a' : (s.does e).hold = h := by cases e <;> exact a
    have b' : (s.does e).guards = gs := by cases e <;> exact b
    exact ⟨i.does w (fits_at v he f) (E k s e he f) (G _ _ (f.does he) a' b'), w.does e, a', b'⟩) (fun k s u f u0 u1 ⟨i, w, a, b⟩ => ⟨i.sweep w (G k s f a b) u1, w.same rfl rfl rfl rfl, a, b⟩)
  exact z.2.1.safe hr
theorem seats_folk {F : Int → Prop} : ∀ {es : List Ev} {ws : WS}, (∀ r z, ws.seats r = some z → F r) → Valid ws es → (∀ r ∈ folk es, F r) → ∀ r z, (ws.run es).seats r = some z → F r
  | [], _, h, _, _ => h
  | e :: es, ws, h, v, hf => by
    have hf2 : ∀ r ∈ folk es, F r := fun r hr => hf r (List.mem_append_right _ hr)
    refine seats_folk (es := es) (ws := ws.step e) (fun r z hz => ?_) v.2 hf2
    have own : ∀ q y, (ws.seat q y).seats r = some z → F q → F r := fun q y hq fq => by
      have hq : (if r = q then some y else ws.seats r) = some z := hq
      split at hq
      · rename_i c
        rw [c]
        exact fq
      · exact h r z hq
    cases e with
    | join q => exact own q 0 hz (hf q (List.mem_append_left _ (by simp [Ev.who])))
    | load q c => exact own q _ hz (hf q (List.mem_append_left _ (by simp [Ev.who])))
    | read q u =>
      obtain ⟨p, hp, _⟩ := v.1
      exact own q u hz (h q p hp)
    | put _ _ => exact h r z hz
    | drop _ => exact h r z hz
    | save _ => exact h r z hz
    | wait => exact h r z hz
theorem copies_kept : ∀ {es : List Ev} {ws : WS}, (ws.run es).copies.length = ws.copies.length + kept es
  | [], _ => rfl
  | e :: es, ws => by
    show ((ws.step e).run es).copies.length = _
    rw [copies_kept]
    show _ = ws.copies.length + (e.kept + kept es)
    cases e <;> simp [WS.step, WS.seat, Ev.kept]
    omega
theorem kept_take (es : List Ev) (k : Nat) : kept (es.take k) ≤ kept es := by
  have e : kept es = kept (es.take k) + kept (es.drop k) := by
    have z := congrArg kept (List.take_append_drop k es)
    rw [← z]
    unfold kept
    rw [List.map_append, List.sum_append]
  omega
theorem folk_take {es : List Ev} {k : Nat} {r : Int} (h : r ∈ folk (es.take k)) : r ∈ folk es := by
  obtain ⟨e, he, hr⟩ := List.mem_flatMap.mp h
  exact List.mem_flatMap.mpr ⟨e, List.mem_of_mem_take he, hr⟩
theorem valid_pre {es : List Ev} (v : Valid .nil es) (k : Nat) : Valid .nil (es.take k) := by
  rw [← List.take_append_drop k es] at v
  exact (valid_append.mp v).1
/-- where a Log has come: its readers are among the table's, its copies at most as many -/
theorem far_folk {es : List Ev} (v : Valid .nil es) {s : LS} {k : Nat} (f : Far es s k) : (∀ r z, getA s.seats r = some z → r ∈ folk es) ∧ s.copies.length ≤ kept es := by
  refine ⟨fun r z e => ?_, ?_⟩
  · rw [f.m.se] at e
    exact folk_take (seats_folk (F := fun r => r ∈ folk (es.take k)) (fun _ _ z => by cases z) (valid_pre v k) (fun _ h => h) r z e)
  · have e : s.copies.length = (WS.nil.run (es.take k)).copies.length := by rw [← f.m.co, List.length_map]
    rw [e, copies_kept]
    have := kept_take es k
    show 0 + _ ≤ _
    omega
/-- with a hold as long as the timetable nobody is wrong -/
theorem wps_long {es : List Ev} {bs : List (Int × Int)} {h : Int} {gs : List (Str × Int)} (v : Valid .nil es) (ok : SwOk es bs) (hh : (es.length : Int) < h) : (finL es h bs gs).wps = [] := by
  refine List.eq_nil_iff_forall_not_mem.mpr fun x hx => ?_
  refine safe_fin (WR := fun _ => True) (WC := fun _ => True) (r := x.1) (k := x.2) v ok (fun k s f a b => .inl ?_) (fun k s e _ _ => ?_) trivial hx
  · have := f.l
    rw [f.t, a]
    omega
  · cases e <;> simp [EvW]
/-- with all readers and copies for guards nobody is wrong -/
theorem wps_all {es : List Ev} {bs : List (Int × Int)} {h : Int} {gs : List (Str × Int)} (v : Valid .nil es) (ok : SwOk es bs) (hr : ∀ r ∈ folk es, (("reader", r) : Str × Int) ∈ gs) (hc : ∀ c : Nat, c < kept es → (("copy", (c : Int)) : Str × Int) ∈ gs) : (finL es h bs gs).wps = [] := by
  refine List.eq_nil_iff_forall_not_mem.mpr fun x hx => ?_
  refine safe_fin (WR := fun _ => True) (WC := fun _ => True) (r := x.1) (k := x.2) v ok (fun k s f a b => .inr ?_) (fun k s e _ _ => ?_) trivial hx
  · obtain ⟨f1, f2⟩ := far_folk v f
    rw [b]
    exact ⟨fun r _ ⟨z, hz⟩ => hr r (f1 r z hz), fun c _ hl => hc c (by omega)⟩
  · cases e <;> simp [EvW]
/-- a reader that never loads is not wrong as its own guard -/
theorem wps_own {es : List Ev} {bs : List (Int × Int)} {h r : Int} (v : Valid .nil es) (ok : SwOk es bs) (nl : ∀ c, Ev.load r c ∉ es) : ∀ x ∈ (finL es h bs [("reader", r)]).wps, x.1 ≠ r := by
  intro x hx e
  refine safe_fin (WR := fun i => i = r) (WC := fun _ => False) (r := x.1) (k := x.2) v ok (fun k s f a b => .inr ?_) (fun k s e he _ => ?_) e hx
  · rw [b]
    exact ⟨fun i hi _ => by rw [hi]; exact List.mem_singleton.mpr rfl, fun c hc => hc.elim⟩
  · cases e with
    | load q c => exact fun hq => absurd (List.mem_of_getElem? he) (by rw [hq]; exact nl c)
    | save q => exact fun hq => hq.elim
    | _ => trivial
/-- few readers have a table -/
theorem tabs_few {es : List Ev} {bs : List (Int × Int)} {h : Int} {gs : List (Str × Int)} (v : Valid .nil es) (ok : SwOk es bs) (eo : ∀ e ∈ es, e.ok) : (finL es h bs gs).tabs.length ≤ 7 := by
  obtain ⟨f, nd, w⟩ := ind_fin (P := fun _ s => (s.tabs.map (·.1)).Nodup ∧ s.Well) (h := h) (gs := gs) ok ⟨List.nodup_nil, ⟨fun r tb e => (by cases e), (by intro _ z; cases z), (by intro _ z; cases z)⟩⟩ (fun k s e _ _ ⟨nd, w⟩ => ⟨by
    cases e with
    | join r => exact put_keys _ _ _ nd
    | read r u => exact put_keys _ _ _ nd
    | load r c => exact put_keys _ _ _ nd
    | _ => exact nd, w.does e⟩) (fun k s u _ _ _ ⟨nd, w⟩ => ⟨nd, w.same rfl rfl rfl rfl⟩)
  have z := nodup_le (b := seven) nd fun x hx => by
    obtain ⟨t, ht, rfl⟩ := List.mem_map.mp hx
    have e : getA (finL es h bs gs).tabs t.1 = some t.2 := (getA_iff nd).mpr ht
    obtain ⟨q, hq⟩ := w.w1 _ _ e
    exact folk_seven eo _ ((far_folk v f).1 _ _ hq)
  rw [List.length_map] at z
  exact z

end
end PK
namespace PK
open PySem L2
section
variable {P : Program} {w : World} {K : PySem.W.Frag} {mg : Str → Option Value} {base : Heap}
def LS.swAt (t : Nat) (s : LS) (b : Int × Int) : LS := if b.1 = t then s.sweep b.2 else s
def LS.swAll (bs : List (Int × Int)) (t : Nat) (s : LS) : LS := bs.foldl (LS.swAt t) s
def LS.stp (es : List Ev) (bs : List (Int × Int)) (s : LS) (t : Nat) : LS :=
  match es[t]? with
  | some e => (s.swAll bs t).does e
  | none => s.swAll bs t
def LS.stps (es : List Ev) (bs : List (Int × Int)) (s : LS) (n : Nat) : LS := (List.range n).foldl (LS.stp es bs) s
theorem Far.swAll {es : List Ev} {t : Nat} : ∀ (bs : List (Int × Int)) {s : LS}, Far es s t → Far es (s.swAll bs t) t
  | [], _, f => f
  | b :: bs, s, f => by
    show Far es (LS.swAll bs t (LS.swAt t s b)) t
    refine Far.swAll bs ?_
    unfold LS.swAt
    split
    · exact f.swp b.2
    · exact f
theorem Far.does2 {es : List Ev} {s : LS} {t : Nat} (f : Far es s t) (v : Valid .nil es) {e : Ev} (he : es[t]? = some e) : s.fits e ∧ Far es (s.does e) (t + 1) := by
  have lt := (List.getElem?_eq_some_iff.mp he).1
  refine ⟨f.m.fits (valid_take v t he), ⟨by rw [LS.does_time, f.t]; rfl, lt, ?_⟩⟩
  rw [take_snoc he, run_snoc]
  exact f.m.does e
theorem far_stps {es : List Ev} (bs : List (Int × Int)) (v : Valid .nil es) (h : Int) (gs : List (Str × Int)) : ∀ t, t ≤ es.length → Far es (LS.stps es bs (LS.new h gs) t) t
  | 0, _ => ⟨rfl, Nat.zero_le _, Sim.nil h gs⟩
  | t + 1, ht => by
    have f := far_stps bs v h gs t (by omega)
    have he : es[t]? = some (es[t]'(by omega)) := List.getElem?_eq_getElem _
    have e : LS.stps es bs (LS.new h gs) (t + 1) = LS.stp es bs (LS.stps es bs (LS.new h gs) t) t := by
      unfold LS.stps
      rw [List.range_succ, List.foldl_append]
      rfl
    rw [e]
    unfold LS.stp
    rw [he]
    exact ((f.swAll bs).does2 v he).2
theorem stps_succ (es : List Ev) (bs : List (Int × Int)) (s : LS) (t : Nat) : LS.stps es bs s (t + 1) = LS.stp es bs (LS.stps es bs s t) t := by
  unfold LS.stps
  rw [List.range_succ, List.foldl_append]
  rfl

end
end PK
namespace PK
open PySem L2
section
variable {P : Program} {w : World} {K : PySem.W.Frag} {mg : Str → Option Value} {base : Heap}
/-- gone through event by event, or sweep by sweep: the same -/
theorem filt_two (t : Int) : ∀ {bs : List (Int × Int)}, bs.Pairwise (fun x y => x.1 ≤ y.1) → bs.filter (fun b => decide (b.1 < t + 1)) = bs.filter (fun b => decide (b.1 < t)) ++ bs.filter (fun b => decide (b.1 = t))
  | [], _ => rfl
  | b :: bs, h => by
    obtain ⟨h1, h2⟩ := List.pairwise_cons.mp h
    have ih := filt_two t h2
    rw [List.filter_cons, List.filter_cons, List.filter_cons]
    by_cases c1 : b.1 < t
    · rw [if_pos (by simp; omega), if_pos (by simpa using c1), if_neg (by simp; omega), ih]
      rfl
    · have e0 : bs.filter (fun b => decide (b.1 < t)) = [] := List.filter_eq_nil_iff.mpr fun x hx => by
        have := h1 x hx
        simp
        omega
      rw [e0, List.nil_append] at ih
      by_cases c2 : b.1 = t
      · rw [if_pos (by simp; omega), if_neg (by simpa using c1), if_pos (by simpa using c2), e0, List.nil_append, ih]
      · rw [if_neg (by simp; omega), if_neg (by simpa using c1), if_neg (by simpa using c2), e0, List.nil_append, ih]
theorem swAll_filt (t : Nat) : ∀ (bs : List (Int × Int)) (s : LS), LS.swAll bs t s = (bs.filter fun b => decide (b.1 = (t : Int))).foldl (fun s b => s.sweep b.2) s
  | [], _ => rfl
  | b :: bs, s => by
    show LS.swAll bs t (LS.swAt t s b) = _
    rw [swAll_filt t bs, List.filter_cons]
    unfold LS.swAt
    by_cases e : b.1 = (t : Int)
    · rw [if_pos e, if_pos (by simpa using e)]
      rfl
    · rw [if_neg e, if_neg (by simpa using e)]
theorem to_self {s : LS} {es : List Ev} {t : Nat} (h : s.time = t) : s.to es t = s := by
  unfold LS.to
  rw [h, Int.toNat_natCast, Nat.sub_self]
  rfl
theorem swps_at {es : List Ev} {t : Nat} (tl : t ≤ es.length) : ∀ (l : List (Int × Int)) (s : LS), (∀ b ∈ l, b.1 = (t : Int)) → 0 ≤ s.time → s.time ≤ t → (s.swps es l).to es t = l.foldl (fun s b => s.sweep b.2) (s.to es t)
  | [], _, _, _, _ => rfl
  | b :: l, s, h, h0, h1 => by
    have e : b.1.toNat = t := by rw [h b List.mem_cons_self]; rfl
    have tm : ((s.to es t).sweep b.2).time = t := by
      rw [sweep_time]
      exact to_time h0 h1 tl
    show ((LS.swp es s b).swps es l).to es t = l.foldl _ ((s.to es t).sweep b.2)
    have e2 : LS.swp es s b = (s.to es t).sweep b.2 := by unfold LS.swp; rw [e]
    rw [e2, swps_at tl l _ (fun c hc => h c (List.mem_cons_of_mem _ hc)) (by rw [tm]; omega) (by rw [tm]; omega), to_self tm]
theorem to_next {s : LS} {es : List Ev} {t : Nat} {e : Ev} (he : es[t]? = some e) (h0 : 0 ≤ s.time) (h1 : s.time ≤ t) : (s.to es t).does e = s.to es (t + 1) := by
  unfold LS.to
  have z : (es.drop s.time.toNat).take (t + 1 - s.time.toNat) = (es.drop s.time.toNat).take (t - s.time.toNat) ++ [e] := by
    rw [show t + 1 - s.time.toNat = (t - s.time.toNat) + 1 from by omega]
    exact take_snoc (by rw [List.getElem?_drop, show s.time.toNat + (t - s.time.toNat) = t from by omega]; exact he)
  rw [z, LS.runs_append]
  rfl
theorem swps_append (s : LS) (es : List Ev) (a b : List (Int × Int)) : s.swps es (a ++ b) = (s.swps es a).swps es b := List.foldl_append ..
theorem swps_time {es : List Ev} {t : Nat} (tl : t ≤ es.length) : ∀ (l : List (Int × Int)) (s : LS), l.Pairwise (fun x y => x.1 ≤ y.1) → (∀ b ∈ l, s.time ≤ b.1 ∧ b.1 ≤ (t : Int)) → 0 ≤ s.time → s.time ≤ t → 0 ≤ (s.swps es l).time ∧ (s.swps es l).time ≤ t
  | [], _, _, _, h0, h1 => ⟨h0, h1⟩
  | b :: l, s, pw, h, h0, h1 => by
    obtain ⟨p1, p2⟩ := List.pairwise_cons.mp pw
    obtain ⟨q1, q2⟩ := h b List.mem_cons_self
    have tm : (LS.swp es s b).time = b.1 := by
      unfold LS.swp
      rw [sweep_time, to_time h0 (by omega) (by omega)]
      omega
    exact swps_time tl l (LS.swp es s b) p2 (fun c hc => ⟨by rw [tm]; exact p1 c hc, (h c (List.mem_cons_of_mem _ hc)).2⟩) (by rw [tm]; omega) (by rw [tm]; omega)
theorem stps_same {es : List Ev} {bs : List (Int × Int)} (ok : SwOk es bs) (h : Int) (gs : List (Str × Int)) : ∀ t, t ≤ es.length → LS.stps es bs (LS.new h gs) t = ((LS.new h gs).swps es (bs.filter fun b => decide (b.1 < (t : Int)))).to es t
  | 0, _ => by
    have e : bs.filter (fun b => decide (b.1 < ((0 : Nat) : Int))) = [] := List.filter_eq_nil_iff.mpr fun x hx => by
      have := (ok.at_ x hx).1
      simp
      omega
    rw [e]
    exact (to_self rfl).symm
  | t + 1, ht => by
    have ih := stps_same ok h gs t (by omega)
    have he : es[t]? = some (es[t]'(by omega)) := List.getElem?_eq_getElem _
    have tmt := swps_time (es := es) (t := t) (by omega) (bs.filter fun b => decide (b.1 < (t : Int))) (LS.new h gs) (ok.up.filter _) (fun b hb => by
      obtain ⟨m1, m2⟩ := List.mem_filter.mp hb
      have := (ok.at_ b m1).1
      have m2 : b.1 < (t : Int) := by simpa using m2
      exact ⟨this, by omega⟩) (Int.le_refl _) (by show (0 : Int) ≤ _; omega)
    have tms := swps_time (es := es) (t := t) (by omega) (bs.filter fun b => decide (b.1 < (t : Int) + 1)) (LS.new h gs) (ok.up.filter _) (fun b hb => by
      obtain ⟨m1, m2⟩ := List.mem_filter.mp hb
      have := (ok.at_ b m1).1
      have m2 : b.1 < (t : Int) + 1 := by simpa using m2
      exact ⟨this, by omega⟩) (Int.le_refl _) (by show (0 : Int) ≤ _; omega)
    rw [stps_succ]
    unfold LS.stp
    rw [he, ih, swAll_filt, ← swps_at (by omega) _ _ (fun b hb => by simpa using (List.mem_filter.mp hb).2) tmt.1 tmt.2, ← swps_append, ← filt_two (t : Int) ok.up]
    exact to_next he tms.1 tms.2
theorem stps_all {es : List Ev} {bs : List (Int × Int)} (ok : SwOk es bs) (h : Int) (gs : List (Str × Int)) : LS.stps es bs (LS.new h gs) (es.length + 1) = ((LS.new h gs).swps es bs).to es es.length := by
  have tmt := swps_time (es := es) (t := es.length) (Nat.le_refl _) (bs.filter fun b => decide (b.1 < (es.length : Int))) (LS.new h gs) (ok.up.filter _) (fun b hb => by
    obtain ⟨m1, m2⟩ := List.mem_filter.mp hb
    have := (ok.at_ b m1).1
    have m2 : b.1 < (es.length : Int) := by simpa using m2
    exact ⟨this, by omega⟩) (Int.le_refl _) (by show (0 : Int) ≤ _; omega)
  have all : bs.filter (fun b => decide (b.1 < (es.length : Int) + 1)) = bs := List.filter_eq_self.mpr fun b hb => by
    have := (ok.at_ b hb).2.1
    simp
    omega
  rw [stps_succ]
  unfold LS.stp
  rw [List.getElem?_eq_none (Nat.le_refl _)]
  show LS.swAll bs es.length _ = _
  rw [stps_same ok h gs es.length (Nat.le_refl _), swAll_filt, ← swps_at (Nat.le_refl _) _ _ (fun b hb => by simpa using (List.mem_filter.mp hb).2) tmt.1 tmt.2, ← swps_append, ← filt_two (es.length : Int) ok.up, all]

end
end PK
namespace PK
open PySem L2
section
variable {P : Program} {w : World} {K : PySem.W.Frag} {mg : Str → Option Value} {base : Heap}
/-! the law's own machine -/
structure MS where
  rows : List (Str × Option Int)
  gone : List (Int × Bool)
  since : List (Int × Int)
  seats : List (Int × Int)
  tabs : List (Int × List (Str × Int))
  copies : List (Int × List (Str × Int))
def MS.nil : MS := ⟨[], [], [], [], [], []⟩
def goneV (l : List (Int × Bool)) : List (Key × V) := l.map fun p => (Sum.inl p.1, V.bl p.2)
abbrev rwV (e : Str × Option Int) : List V := [.str e.1, optV e.2]
abbrev enAt (E : List (Str × Option Int)) (i : Nat) : Str × Option Int := E.getD i ("", none)
def wKs (A : Nat → Addr) : List (Key × V) := [(.inr "rows", .ref (A 1)), (.inr "gone", .ref (A 2)), (.inr "since", .ref (A 3)), (.inr "seats", .ref (A 4)), (.inr "tables", .ref (A 5)), (.inr "copies", .ref (A 6)), (.inr "heard", .ref (A 7))]
abbrev CpM (H : Hp) (cd : List Addr) (x : V) (c : Int × List (Str × Int)) : Prop := ∃ a d, x = V.ref a ∧ d ∈ cd ∧ H a = some (.tup [.int c.1, .ref d]) ∧ H d = some (.dK (tabV c.2))
structure MsAt (H : Hp) (A : Nat → Addr) (m : MS) (L : List (Int × Addr)) (cd : List Addr) (hs : List V) : Prop where
  inj : ∀ i j, i < 8 → j < 8 → A i = A j → i = j
  tn : ∀ q ∈ L, ∀ i, i < 8 → q.2 ≠ A i
  an : (L.map (·.2)).Nodup
  kn : (L.map (·.1)).Nodup
  cn : ∀ d ∈ cd, (∀ i, i < 8 → d ≠ A i) ∧ d ∉ L.map (·.2)
  f0 : H (A 0) = some (.dK (wKs A))
  f1 : ∃ xs, H (A 1) = some (.lst xs) ∧ Tps H xs (m.rows.map rwV)
  f2 : H (A 2) = some (.dK (goneV m.gone))
  f3 : H (A 3) = some (.dK (seatsV m.since))
  f4 : H (A 4) = some (.dK (seatsV m.seats))
  f5 : H (A 5) = some (.dK (tabsV L))
  td : Paired (fun q t => q.1 = t.1 ∧ H q.2 = some (.dK (tabV t.2))) L m.tabs
  f6 : ∃ cs, H (A 6) = some (.lst cs) ∧ Paired (CpM H cd) cs m.copies
  f7 : H (A 7) = some (.lst hs)
  cv : ∀ d ∈ cd, ∃ o, H d = some o
def ownM (A : Nat → Addr) (L : List (Int × Addr)) : List Addr := (List.range 8).map A ++ L.map (·.2)
theorem ownM_cell {A : Nat → Addr} {L : List (Int × Addr)} {i : Nat} (h : i < 8) : A i ∈ ownM A L := List.mem_append_left _ (List.mem_map.mpr ⟨i, List.mem_range.mpr h, rfl⟩)
theorem ownM_iff {A : Nat → Addr} {L : List (Int × Addr)} {x : Addr} : x ∈ ownM A L ↔ (∃ i, i < 8 ∧ x = A i) ∨ x ∈ L.map (·.2) := by
  unfold ownM
  rw [List.mem_append, List.mem_map]
  refine or_congr ⟨fun ⟨i, h, e⟩ => ⟨i, List.mem_range.mp h, e.symm⟩, fun ⟨i, h, e⟩ => ⟨i, List.mem_range.mpr h, e.symm⟩⟩ Iff.rfl
section
variable {A : Nat → Addr}
theorem wk1 : valV (wKs A) (.inr "rows") = some (.ref (A 1)) := valV_pos rfl
theorem wk2 : valV (wKs A) (.inr "gone") = some (.ref (A 2)) := (valV_neg (by dsimp only; decide +kernel)).trans (valV_pos rfl)
theorem wk3 : valV (wKs A) (.inr "since") = some (.ref (A 3)) := (valV_neg (by dsimp only; decide +kernel)).trans ((valV_neg (by dsimp only; decide +kernel)).trans (valV_pos rfl))
theorem wk4 : valV (wKs A) (.inr "seats") = some (.ref (A 4)) := (valV_neg (by dsimp only; decide +kernel)).trans ((valV_neg (by dsimp only; decide +kernel)).trans ((valV_neg (by dsimp only; decide +kernel)).trans (valV_pos rfl)))
theorem wk5 : valV (wKs A) (.inr "tables") = some (.ref (A 5)) := (valV_neg (by dsimp only; decide +kernel)).trans ((valV_neg (by dsimp only; decide +kernel)).trans ((valV_neg (by dsimp only; decide +kernel)).trans ((valV_neg (by dsimp only; decide +kernel)).trans (valV_pos rfl))))
theorem wk6 : valV (wKs A) (.inr "copies") = some (.ref (A 6)) := (valV_neg (by dsimp only; decide +kernel)).trans ((valV_neg (by dsimp only; decide +kernel)).trans ((valV_neg (by dsimp only; decide +kernel)).trans ((valV_neg (by dsimp only; decide +kernel)).trans ((valV_neg (by dsimp only; decide +kernel)).trans (valV_pos rfl)))))
theorem wk7 : valV (wKs A) (.inr "heard") = some (.ref (A 7)) := (valV_neg (by dsimp only; decide +kernel)).trans ((valV_neg (by dsimp only; decide +kernel)).trans ((valV_neg (by dsimp only; decide +kernel)).trans ((valV_neg (by dsimp only; decide +kernel)).trans ((valV_neg (by dsimp only; decide +kernel)).trans ((valV_neg (by dsimp only; decide +kernel)).trans (valV_pos rfl))))))
end
section
variable {H H' : Hp} {A : Nat → Addr} {m : MS} {L : List (Int × Addr)} {cd : List Addr} {hs : List V}
theorem wk_at {n : Str} {v : V} (h : MsAt H A m L cd hs) (e : valV (wKs A) (.inr n) = some v) : DGet H (A 0) (.str n) (some v) := by
  have z := DGet.k (k := .inr n) h.f0
  rw [e] at z
  exact z
theorem MsAt.d1 (h : MsAt H A m L cd hs) : DGet H (A 0) (.str "rows") (some (.ref (A 1))) := wk_at h wk1
theorem MsAt.d2 (h : MsAt H A m L cd hs) : DGet H (A 0) (.str "gone") (some (.ref (A 2))) := wk_at h wk2
theorem MsAt.d3 (h : MsAt H A m L cd hs) : DGet H (A 0) (.str "since") (some (.ref (A 3))) := wk_at h wk3
theorem MsAt.d4 (h : MsAt H A m L cd hs) : DGet H (A 0) (.str "seats") (some (.ref (A 4))) := wk_at h wk4
theorem MsAt.d5 (h : MsAt H A m L cd hs) : DGet H (A 0) (.str "tables") (some (.ref (A 5))) := wk_at h wk5
theorem MsAt.d6 (h : MsAt H A m L cd hs) : DGet H (A 0) (.str "copies") (some (.ref (A 6))) := wk_at h wk6
theorem MsAt.d7 (h : MsAt H A m L cd hs) : DGet H (A 0) (.str "heard") (some (.ref (A 7))) := wk_at h wk7
theorem MsAt.keep {M : List Addr} (h : MsAt H A m L cd hs) (g : Gr M H H') (d1 : ∀ i, i < 8 → A i ∉ M) (d2 : ∀ q ∈ L, q.2 ∉ M) (d3 : ∀ d ∈ cd, d ∉ M) : MsAt H' A m L cd hs := by
  obtain ⟨xs, e1, e2⟩ := h.f1
  obtain ⟨cs, c1, c2⟩ := h.f6
  exact ⟨h.inj, h.tn, h.an, h.kn, h.cn, g.keep _ _ (d1 0 (by decide)) h.f0, ⟨xs, g.keep _ _ (d1 1 (by decide)) e1, e2.gr g⟩, g.keep _ _ (d1 2 (by decide)) h.f2, g.keep _ _ (d1 3 (by decide)) h.f3, g.keep _ _ (d1 4 (by decide)) h.f4, g.keep _ _ (d1 5 (by decide)) h.f5,
    pr_on h.td fun q hq t ht => ⟨ht.1, g.keep _ _ (d2 q hq) ht.2⟩, ⟨cs, g.keep _ _ (d1 6 (by decide)) c1, Paired.mono (fun _ _ ⟨a, d, e, hd, h1, h2⟩ => ⟨a, d, e, hd, g.tup _ _ h1, g.keep _ _ (d3 d hd) h2⟩) c2⟩, g.keep _ _ (d1 7 (by decide)) h.f7, fun d hd => by
    obtain ⟨o, ho⟩ := h.cv d hd
    exact ⟨o, g.keep _ _ (d3 d hd) ho⟩⟩
theorem MsAt.k0 (h : MsAt H A m L cd hs) (g : Gr [] H H') : MsAt H' A m L cd hs := h.keep g (by simp) (by simp) (by simp)
theorem MsAt.livec (h : MsAt H A m L cd hs) {i : Nat} (hi : i < 8) : ∃ o, H (A i) = some o := by
  obtain ⟨xs, e1, _⟩ := h.f1
  obtain ⟨cs, c1, _⟩ := h.f6
  have z : i = 0 ∨ i = 1 ∨ i = 2 ∨ i = 3 ∨ i = 4 ∨ i = 5 ∨ i = 6 ∨ i = 7 := by omega
  rcases z with rfl | rfl | rfl | rfl | rfl | rfl | rfl | rfl
  · exact ⟨_, h.f0⟩
  · exact ⟨_, e1⟩
  · exact ⟨_, h.f2⟩
  · exact ⟨_, h.f3⟩
  · exact ⟨_, h.f4⟩
  · exact ⟨_, h.f5⟩
  · exact ⟨_, c1⟩
  · exact ⟨_, h.f7⟩
theorem MsAt.live (h : MsAt H A m L cd hs) {d : Addr} (hd : H d = none) : d ∉ ownM A L := fun z => by
  rcases ownM_iff.mp z with ⟨i, hi, rfl⟩ | z
  · obtain ⟨o, ho⟩ := h.livec hi
    rw [ho] at hd
    cases hd
  · obtain ⟨q, hq, rfl⟩ := List.mem_map.mp z
    obtain ⟨t, _, ht⟩ := mem_of_pr h.td hq
    rw [ht.2] at hd
    cases hd
theorem MsAt.livecd (h : MsAt H A m L cd hs) {d : Addr} (hd : H d = none) : d ∉ cd := fun z => by
  obtain ⟨o, ho⟩ := h.cv d z
  rw [ho] at hd
  cases hd
theorem MsAt.cell (h : MsAt H A m L cd hs) {i : Nat} (hi : i < 8) (o : HO) : (∀ j, j < 8 → j ≠ i → upd H (A i) o (A j) = H (A j)) ∧ (∀ q ∈ L, upd H (A i) o q.2 = H q.2) ∧ ∀ d ∈ cd, upd H (A i) o d = H d :=
  ⟨fun j hj n => upd_ne fun e => n (h.inj j i hj hi e), fun q hq => upd_ne (h.tn q hq i hi), fun d hd => upd_ne ((h.cn d hd).1 i hi)⟩
theorem MsAt.gset (h : MsAt H A m L cd hs) {i : Nat} (hi : i < 8) (nt : ∀ u, H (A i) = some u → (∀ xs, u ≠ .tup xs) ∧ ∀ o v, u ≠ .frz o v) (o : HO) : Gr (ownM A L) H (upd H (A i) o) := by
  obtain ⟨u, hu⟩ := h.livec hi
  exact Gr.mut hu (nt u hu).1 (ownM_cell hi) (nt u hu).2
theorem MsAt.setG (h : MsAt H A m L cd hs) (g' : List (Int × Bool)) : MsAt (upd H (A 2) (.dK (goneV g'))) A { m with gone := g' } L cd hs ∧ Gr (ownM A L) H (upd H (A 2) (.dK (goneV g'))) := by
  obtain ⟨xs, e1, e2⟩ := h.f1
  obtain ⟨cs, c1, c2⟩ := h.f6
  obtain ⟨k1, k2, k3⟩ := h.cell (i := 2) (by decide) (.dK (goneV g'))
  have g : Gr (ownM A L) H (upd H (A 2) (.dK (goneV g'))) := Gr.mutD h.f2 (ownM_cell (by decide))
  exact ⟨⟨h.inj, h.tn, h.an, h.kn, h.cn, by rw [k1 0 (by decide) (by decide)]; exact h.f0, ⟨xs, by rw [k1 1 (by decide) (by decide)]; exact e1, e2.gr g⟩, upd_same, by rw [k1 3 (by decide) (by decide)]; exact h.f3, by rw [k1 4 (by decide) (by decide)]; exact h.f4, by rw [k1 5 (by decide) (by decide)]; exact h.f5,
    pr_on h.td fun q hq t ht => ⟨ht.1, by rw [k2 q hq]; exact ht.2⟩, ⟨cs, by rw [k1 6 (by decide) (by decide)]; exact c1, Paired.mono (fun _ _ ⟨a, d, e, hd, h1, h2⟩ => ⟨a, d, e, hd, g.tup _ _ h1, by rw [k3 d hd]; exact h2⟩) c2⟩, by rw [k1 7 (by decide) (by decide)]; exact h.f7, fun d hd => by rw [k3 d hd]; exact h.cv d hd⟩, g⟩
theorem MsAt.setI (h : MsAt H A m L cd hs) (g' : List (Int × Int)) : MsAt (upd H (A 3) (.dK (seatsV g'))) A { m with since := g' } L cd hs ∧ Gr (ownM A L) H (upd H (A 3) (.dK (seatsV g'))) := by
  obtain ⟨xs, e1, e2⟩ := h.f1
  obtain ⟨cs, c1, c2⟩ := h.f6
  obtain ⟨k1, k2, k3⟩ := h.cell (i := 3) (by decide) (.dK (seatsV g'))
  have g : Gr (ownM A L) H (upd H (A 3) (.dK (seatsV g'))) := Gr.mutD h.f3 (ownM_cell (by decide))
  exact ⟨⟨h.inj, h.tn, h.an, h.kn, h.cn, by rw [k1 0 (by decide) (by decide)]; exact h.f0, ⟨xs, by rw [k1 1 (by decide) (by decide)]; exact e1, e2.gr g⟩, by rw [k1 2 (by decide) (by decide)]; exact h.f2, upd_same, by rw [k1 4 (by decide) (by decide)]; exact h.f4, by rw [k1 5 (by decide) (by decide)]; exact h.f5,
    pr_on h.td fun q hq t ht => ⟨ht.1, by rw [k2 q hq]; exact ht.2⟩, ⟨cs, by rw [k1 6 (by decide) (by decide)]; exact c1, Paired.mono (fun _ _ ⟨a, d, e, hd, h1, h2⟩ => ⟨a, d, e, hd, g.tup _ _ h1, by rw [k3 d hd]; exact h2⟩) c2⟩, by rw [k1 7 (by decide) (by decide)]; exact h.f7, fun d hd => by rw [k3 d hd]; exact h.cv d hd⟩, g⟩
theorem MsAt.setS (h : MsAt H A m L cd hs) (g' : List (Int × Int)) : MsAt (upd H (A 4) (.dK (seatsV g'))) A { m with seats := g' } L cd hs ∧ Gr (ownM A L) H (upd H (A 4) (.dK (seatsV g'))) := by
  obtain ⟨xs, e1, e2⟩ := h.f1
  obtain ⟨cs, c1, c2⟩ := h.f6
  obtain ⟨k1, k2, k3⟩ := h.cell (i := 4) (by decide) (.dK (seatsV g'))
  have g : Gr (ownM A L) H (upd H (A 4) (.dK (seatsV g'))) := Gr.mutD h.f4 (ownM_cell (by decide))
  exact ⟨⟨h.inj, h.tn, h.an, h.kn, h.cn, by rw [k1 0 (by decide) (by decide)]; exact h.f0, ⟨xs, by rw [k1 1 (by decide) (by decide)]; exact e1, e2.gr g⟩, by rw [k1 2 (by decide) (by decide)]; exact h.f2, by rw [k1 3 (by decide) (by decide)]; exact h.f3, upd_same, by rw [k1 5 (by decide) (by decide)]; exact h.f5,
    pr_on h.td fun q hq t ht => ⟨ht.1, by rw [k2 q hq]; exact ht.2⟩, ⟨cs, by rw [k1 6 (by decide) (by decide)]; exact c1, Paired.mono (fun _ _ ⟨a, d, e, hd, h1, h2⟩ => ⟨a, d, e, hd, g.tup _ _ h1, by rw [k3 d hd]; exact h2⟩) c2⟩, by rw [k1 7 (by decide) (by decide)]; exact h.f7, fun d hd => by rw [k3 d hd]; exact h.cv d hd⟩, g⟩
theorem MsAt.addR (h : MsAt H A m L cd hs) {xs : List V} (hx : H (A 1) = some (.lst xs)) {v : V} {e : Str × Option Int} (hv : IsTp H v (rwV e)) : MsAt (upd H (A 1) (.lst (xs ++ [v]))) A { m with rows := m.rows ++ [e] } L cd hs ∧ Gr (ownM A L) H (upd H (A 1) (.lst (xs ++ [v]))) := by
  obtain ⟨xs', e1, e2⟩ := h.f1
  rw [hx] at e1
  cases e1
  obtain ⟨cs, c1, c2⟩ := h.f6
  obtain ⟨k1, k2, k3⟩ := h.cell (i := 1) (by decide) (.lst (xs ++ [v]))
  have g : Gr (ownM A L) H (upd H (A 1) (.lst (xs ++ [v]))) := Gr.mutL hx (ownM_cell (by decide))
  exact ⟨⟨h.inj, h.tn, h.an, h.kn, h.cn, by rw [k1 0 (by decide) (by decide)]; exact h.f0, ⟨_, upd_same, by rw [List.map_append]; exact pr_append (e2.gr g) (.cons (hv.gr g) .nil)⟩, by rw [k1 2 (by decide) (by decide)]; exact h.f2, by rw [k1 3 (by decide) (by decide)]; exact h.f3, by rw [k1 4 (by decide) (by decide)]; exact h.f4, by rw [k1 5 (by decide) (by decide)]; exact h.f5,
    pr_on h.td fun q hq t ht => ⟨ht.1, by rw [k2 q hq]; exact ht.2⟩, ⟨cs, by rw [k1 6 (by decide) (by decide)]; exact c1, Paired.mono (fun _ _ ⟨a, d, e, hd, h1, h2⟩ => ⟨a, d, e, hd, g.tup _ _ h1, by rw [k3 d hd]; exact h2⟩) c2⟩, by rw [k1 7 (by decide) (by decide)]; exact h.f7, fun d hd => by rw [k3 d hd]; exact h.cv d hd⟩, g⟩
theorem MsAt.addC (h : MsAt H A m L cd hs) {cs : List V} (hc : H (A 6) = some (.lst cs)) {a d : Addr} {z : Int} {tb : List (Str × Int)} (ha : H a = some (.tup [.int z, .ref d])) (hd : H d = some (.dK (tabV tb))) (nd : d ∉ ownM A L) :
    MsAt (upd H (A 6) (.lst (cs ++ [.ref a]))) A { m with copies := m.copies ++ [(z, tb)] } L (d :: cd) hs ∧ Gr (ownM A L) H (upd H (A 6) (.lst (cs ++ [.ref a]))) := by
  obtain ⟨xs, e1, e2⟩ := h.f1
  obtain ⟨cs', c1, c2⟩ := h.f6
  rw [hc] at c1
  cases c1
  obtain ⟨k1, k2, k3⟩ := h.cell (i := 6) (by decide) (.lst (cs ++ [.ref a]))
  have g : Gr (ownM A L) H (upd H (A 6) (.lst (cs ++ [.ref a]))) := Gr.mutL hc (ownM_cell (by decide))
  have dc : ∀ i, i < 8 → d ≠ A i := fun i hi e => nd (by rw [e]; exact ownM_cell hi)
  have dl : d ∉ L.map (·.2) := fun z => nd (List.mem_append_right _ z)
  refine ⟨⟨h.inj, h.tn, h.an, h.kn, fun x hx => ?_, by rw [k1 0 (by decide) (by decide)]; exact h.f0, ⟨xs, by rw [k1 1 (by decide) (by decide)]; exact e1, e2.gr g⟩, by rw [k1 2 (by decide) (by decide)]; exact h.f2, by rw [k1 3 (by decide) (by decide)]; exact h.f3, by rw [k1 4 (by decide) (by decide)]; exact h.f4, by rw [k1 5 (by decide) (by decide)]; exact h.f5,
    pr_on h.td fun q hq t ht => ⟨ht.1, by rw [k2 q hq]; exact ht.2⟩, ⟨_, upd_same, pr_append (Paired.mono (fun _ _ ⟨a, d', e, hd', h1, h2⟩ => ⟨a, d', e, List.mem_cons_of_mem _ hd', g.tup _ _ h1, by rw [k3 d' hd']; exact h2⟩) c2) (.cons ⟨a, d, rfl, List.mem_cons_self, g.tup _ _ ha, by rw [upd_ne (dc 6 (by decide))]; exact hd⟩ .nil)⟩, by rw [k1 7 (by decide) (by decide)]; exact h.f7, fun x hx => by
      rcases List.mem_cons.mp hx with rfl | hx
      · exact ⟨_, by rw [upd_ne (dc 6 (by decide))]; exact hd⟩
      · rw [k3 x hx]; exact h.cv x hx⟩, g⟩
  rcases List.mem_cons.mp hx with rfl | hx
  · exact ⟨dc, dl⟩
  · exact h.cn x hx
theorem MsAt.addH (h : MsAt H A m L cd hs) (v : V) : MsAt (upd H (A 7) (.lst (hs ++ [v]))) A m L cd (hs ++ [v]) ∧ Gr (ownM A L) H (upd H (A 7) (.lst (hs ++ [v]))) := by
  obtain ⟨xs, e1, e2⟩ := h.f1
  obtain ⟨cs, c1, c2⟩ := h.f6
  obtain ⟨k1, k2, k3⟩ := h.cell (i := 7) (by decide) (.lst (hs ++ [v]))
  have g : Gr (ownM A L) H (upd H (A 7) (.lst (hs ++ [v]))) := Gr.mutL h.f7 (ownM_cell (by decide))
  exact ⟨⟨h.inj, h.tn, h.an, h.kn, h.cn, by rw [k1 0 (by decide) (by decide)]; exact h.f0, ⟨xs, by rw [k1 1 (by decide) (by decide)]; exact e1, e2.gr g⟩, by rw [k1 2 (by decide) (by decide)]; exact h.f2, by rw [k1 3 (by decide) (by decide)]; exact h.f3, by rw [k1 4 (by decide) (by decide)]; exact h.f4, by rw [k1 5 (by decide) (by decide)]; exact h.f5,
    pr_on h.td fun q hq t ht => ⟨ht.1, by rw [k2 q hq]; exact ht.2⟩, ⟨cs, by rw [k1 6 (by decide) (by decide)]; exact c1, Paired.mono (fun _ _ ⟨a, d, e, hd, h1, h2⟩ => ⟨a, d, e, hd, g.tup _ _ h1, by rw [k3 d hd]; exact h2⟩) c2⟩, upd_same, fun d hd => by rw [k3 d hd]; exact h.cv d hd⟩, g⟩
theorem MsAt.newTab (h : MsAt H A m L cd hs) (r : Int) {d : Addr} {tb : List (Str × Int)} (hd : H d = some (.dK (tabV tb))) (nd : d ∉ ownM A L) (nc : d ∉ cd) :
    MsAt (upd H (A 5) (.dK (tabsV (putA L r d)))) A { m with tabs := putA m.tabs r tb } (putA L r d) cd hs ∧ Gr (ownM A L) H (upd H (A 5) (.dK (tabsV (putA L r d)))) ∧ ∀ x ∈ ownM A (putA L r d), x = d ∨ x ∈ ownM A L := by
  obtain ⟨xs, e1, e2⟩ := h.f1
  obtain ⟨cs, c1, c2⟩ := h.f6
  obtain ⟨k1, k2, k3⟩ := h.cell (i := 5) (by decide) (.dK (tabsV (putA L r d)))
  have g : Gr (ownM A L) H (upd H (A 5) (.dK (tabsV (putA L r d)))) := Gr.mutD h.f5 (ownM_cell (by decide))
  have dc : ∀ i, i < 8 → d ≠ A i := fun i hi e => nd (by rw [e]; exact ownM_cell hi)
  have dl : d ∉ L.map (·.2) := fun z => nd (List.mem_append_right _ z)
  have sub : ∀ x ∈ (putA L r d).map (·.2), x = d ∨ x ∈ L.map (·.2) := fun x hx => by
    unfold putA at hx
    split at hx
    · rcases (put_nd (r := r) h.kn h.an dl).2 x hx with z | z
      · exact .inl z.1
      · exact .inr z
    · rw [List.map_append] at hx
      rcases List.mem_append.mp hx with z | z
      · exact .inr z
      · exact .inl (by simpa using z)
  have nds : ((putA L r d).map (·.2)).Nodup := by
    unfold putA
    split
    · exact (put_nd (r := r) h.kn h.an dl).1
    · rw [List.map_append]
      exact List.nodup_append.mpr ⟨h.an, by simp, fun x hx y hy => by
        simp only [List.map_cons, List.map_nil, List.mem_singleton] at hy
        intro e
        exact dl (by rw [← hy, ← e]; exact hx)⟩
  refine ⟨⟨h.inj, fun q hq i hi e => ?_, nds, put_keys _ _ _ h.kn, fun x hx => ⟨(h.cn x hx).1, fun z => ?_⟩, by rw [k1 0 (by decide) (by decide)]; exact h.f0, ⟨xs, by rw [k1 1 (by decide) (by decide)]; exact e1, e2.gr g⟩, by rw [k1 2 (by decide) (by decide)]; exact h.f2, by rw [k1 3 (by decide) (by decide)]; exact h.f3, by rw [k1 4 (by decide) (by decide)]; exact h.f4, upd_same,
    pr_put (fun _ _ z => z.1) h.td ⟨rfl, by rw [upd_ne (dc 5 (by decide))]; exact hd⟩ fun q hq t ht _ => ⟨ht.1, by rw [k2 q hq]; exact ht.2⟩, ⟨cs, by rw [k1 6 (by decide) (by decide)]; exact c1, Paired.mono (fun _ _ ⟨a, d, e, hd, h1, h2⟩ => ⟨a, d, e, hd, g.tup _ _ h1, by rw [k3 d hd]; exact h2⟩) c2⟩, by rw [k1 7 (by decide) (by decide)]; exact h.f7, fun d hd => by rw [k3 d hd]; exact h.cv d hd⟩, g, fun x hx => ?_⟩
  · rcases sub q.2 (List.mem_map.mpr ⟨q, hq, rfl⟩) with z | z
    · exact dc i hi (by rw [← z]; exact e)
    · obtain ⟨q', hq', e'⟩ := List.mem_map.mp z
      exact h.tn q' hq' i hi (by rw [e']; exact e)
  · rcases sub x z with e | e
    · exact nc (by rw [← e]; exact hx)
    · exact (h.cn x hx).2 e
  · rcases ownM_iff.mp hx with ⟨i, hi, rfl⟩ | z
    · exact .inr (ownM_cell hi)
    · rcases sub x z with z | z
      · exact .inl z
      · exact .inr (List.mem_append_right _ z)
theorem MsAt.setTab (h : MsAt H A m L cd hs) {r : Int} {a : Addr} (hm : (r, a) ∈ L) (tb : List (Str × Int)) : MsAt (upd H a (.dK (tabV tb))) A { m with tabs := putA m.tabs r tb } L cd hs ∧ Gr (ownM A L) H (upd H a (.dK (tabV tb))) := by
  obtain ⟨xs, e1, e2⟩ := h.f1
  obtain ⟨cs, c1, c2⟩ := h.f6
  have am : a ∈ L.map (·.2) := List.mem_map.mpr ⟨_, hm, rfl⟩
  have k1 : ∀ i, i < 8 → upd H a (.dK (tabV tb)) (A i) = H (A i) := fun i hi => upd_ne fun e => h.tn _ hm i hi e.symm
  have k3 : ∀ d ∈ cd, upd H a (.dK (tabV tb)) d = H d := fun d hd => upd_ne fun e => (h.cn d hd).2 (by rw [e]; exact am)
  obtain ⟨tt, _, htt⟩ := mem_of_pr h.td hm
  have g : Gr (ownM A L) H (upd H a (.dK (tabV tb))) := Gr.mut htt.2 (fun _ z => by cases z) (List.mem_append_right _ am)
  have td2 : Paired (fun (q : Int × Addr) (t : Int × List (Str × Int)) => q.1 = t.1 ∧ upd H a (.dK (tabV tb)) q.2 = some (.dK (tabV t.2))) (putA L r a) (putA m.tabs r tb) :=
    pr_put (fun _ _ z => z.1) h.td ⟨rfl, upd_same⟩ fun q hq t ht hr => ⟨ht.1, by
      rw [upd_ne]
      · exact ht.2
      · intro e
        exact hr (by rw [same_of h.an hq hm e])⟩
  rw [put_id h.kn hm] at td2
  exact ⟨⟨h.inj, h.tn, h.an, h.kn, h.cn, by rw [k1 0 (by decide)]; exact h.f0, ⟨xs, by rw [k1 1 (by decide)]; exact e1, e2.gr g⟩, by rw [k1 2 (by decide)]; exact h.f2, by rw [k1 3 (by decide)]; exact h.f3, by rw [k1 4 (by decide)]; exact h.f4, by rw [k1 5 (by decide)]; exact h.f5, td2,
    ⟨cs, by rw [k1 6 (by decide)]; exact c1, Paired.mono (fun _ _ ⟨a, d, e, hd, h1, h2⟩ => ⟨a, d, e, hd, g.tup _ _ h1, by rw [k3 d hd]; exact h2⟩) c2⟩, by rw [k1 7 (by decide)]; exact h.f7, fun d hd => by rw [k3 d hd]; exact h.cv d hd⟩, g⟩
end

end
end PK
namespace PK
open PySem L2
section
variable {P : Program} {w : World} {K : PySem.W.Frag} {mg : Str → Option Value} {base : Heap}
/-! a machine beside a Log -/
def SameA (a b : List (Str × Int)) : Prop := ∀ k, getA a k = getA b k
abbrev NdK (l : List (Str × Int)) : Prop := (l.map (·.1)).Nodup
structure Mt (m : MS) (s : LS) : Prop where
  r : m.rows = s.ents
  g : ∀ i : Nat, i < s.ents.length → (getA m.gone (i : Int)).isSome = s.gone.getD i true
  gn : (m.gone.map (·.1)).Nodup
  gb : ∀ q ∈ m.gone, 0 ≤ q.1 ∧ q.1 < (s.ents.length : Int)
  si : ∀ i : Nat, i < s.ents.length → getA m.since (i : Int) = s.since.getD i none
  inn : (m.since.map (·.1)).Nodup
  ib : ∀ q ∈ m.since, 0 ≤ q.1 ∧ q.1 < (s.ents.length : Int)
  se : m.seats = s.seats
  tk : m.tabs.map (·.1) = s.tabs.map (·.1)
  t : ∀ r tb, getA m.tabs r = some tb → ∃ tb', getA s.tabs r = some tb' ∧ SameA tb tb' ∧ NdK tb ∧ NdK tb'
  cl : m.copies.length = s.copies.length
  c : ∀ (c : Nat) (x y : Int × List (Str × Int)), m.copies[c]? = some x → s.copies[c]? = some y → x.1 = y.1 ∧ SameA x.2 y.2 ∧ NdK x.2 ∧ NdK y.2
theorem nodup_lt {l : List Int} {n : Nat} (h : l.Nodup) (b : ∀ x ∈ l, 0 ≤ x ∧ x < (n : Int)) : l.length ≤ n := by
  have z := nodup_le (b := (List.range n).map fun (k : Nat) => (k : Int)) h fun k hk => List.mem_map.mpr ⟨k.toNat, List.mem_range.mpr (by have := b k hk; omega), by have := b k hk; omega⟩
  rw [List.length_map, List.length_range] at z
  exact z
theorem Mt.gl {m : MS} {s : LS} (h : Mt m s) : m.gone.length ≤ s.ents.length := by
  have z := nodup_lt (n := s.ents.length) h.gn fun x hx => by
    obtain ⟨q, hq, rfl⟩ := List.mem_map.mp hx
    exact h.gb q hq
  rw [List.length_map] at z
  exact z
theorem Mt.il {m : MS} {s : LS} (h : Mt m s) : m.since.length ≤ s.ents.length := by
  have z := nodup_lt (n := s.ents.length) h.inn fun x hx => by
    obtain ⟨q, hq, rfl⟩ := List.mem_map.mp hx
    exact h.ib q hq
  rw [List.length_map] at z
  exact z
theorem sameA_perm {a b : List (Str × Int)} (na : NdK a) (nb : NdK b) (h : SameA a b) : a.Perm b := by
  have n1 : a.Nodup := List.Pairwise.of_map _ (fun x y n e => n (by rw [e])) na
  have n2 : b.Nodup := List.Pairwise.of_map _ (fun x y n e => n (by rw [e])) nb
  refine (List.perm_ext_iff_of_nodup n1 n2).mpr fun x => ?_
  rw [← getA_iff (a := x.1) (b := x.2) na, ← getA_iff (a := x.1) (b := x.2) nb, h]
theorem ordS_same {a b : List (Str × Int)} (na : NdK a) (nb : NdK b) (h : SameA a b) : ordS a = ordS b :=
  ordS_one (ordS_srt a) ((ordS_perm a).trans (sameA_perm na nb h)) nb
theorem getA_some {β : Type} {l : List (Int × β)} {r : Int} (h : r ∈ l.map (·.1)) : ∃ b, getA l r = some b := by
  cases e : getA l r with
  | some b => exact ⟨b, rfl⟩
  | none =>
    obtain ⟨q, hq, e2⟩ := List.mem_map.mp h
    exact absurd e2 (getA_none.mp e q hq)
theorem Mt.tab {m : MS} {s : LS} (h : Mt m s) {r : Int} {tb' : List (Str × Int)} (e : getA s.tabs r = some tb') : ∃ tb, getA m.tabs r = some tb ∧ SameA tb tb' ∧ NdK tb ∧ NdK tb' := by
  have hr : r ∈ m.tabs.map (·.1) := by
    rw [h.tk]
    exact List.mem_map.mpr ⟨_, getA_in e, rfl⟩
  obtain ⟨tb, e1⟩ := getA_some hr
  obtain ⟨tb2, e2, e3⟩ := h.t r tb e1
  rw [e] at e2
  cases e2
  exact ⟨tb, e1, e3⟩
theorem goes_iff {hold time : Int} {o x : Option Int} : goes hold time o x = true ↔ o = none ∧ ∃ t, x = some t ∧ t ≤ time - hold := by
  cases o with
  | some v => simp [goes]
  | none =>
    cases x with
    | none => simp [goes]
    | some t =>
      show decide (hold ≤ time - t) = true ↔ _
      rw [decide_eq_true_eq]
      constructor
      · intro h
        exact ⟨rfl, t, rfl, by omega⟩
      · rintro ⟨_, t', e, h⟩
        cases e
        omega
theorem lets_len2 (s : LS) : s.lets.length = s.gone.length := by
  unfold LS.lets
  exact lets_len _ _ _
theorem ent_def {s : LS} {i : Nat} (hi : i < s.ents.length) : (s.ents.getD i ("", some 0)) = enAt s.ents i := by
  unfold enAt
  rw [List.getD_eq_getElem?_getD, List.getD_eq_getElem?_getD, List.getElem?_eq_getElem hi]
  rfl
/-- a mark goes -/
def Lv (s : LS) (i : Nat) : Prop := (enAt s.ents i).2 = none ∧ (∃ t, s.since.getD i none = some t ∧ t ≤ s.time - s.hold) ∧ ∀ g ∈ s.guards, s.okg i g
theorem marks_gone {s : LS} {i : Nat} (hi : i < s.ents.length) : s.marks.gone.getD i true = true ↔ s.gone.getD i true = true ∨ Lv s i := by
  show s.lets.getD i true = true ↔ _
  unfold LS.lets
  rw [lets_iff, goes_iff, ent_def hi, List.mem_range]
  refine or_congr Iff.rfl ?_
  have e : i < s.least.toNat ↔ (i : Int) < s.least := by omega
  rw [e, lt_least]
  constructor
  · rintro ⟨⟨_, h1⟩, h2, h3⟩
    exact ⟨h2, h3, h1⟩
  · rintro ⟨h1, h2, h3⟩
    exact ⟨⟨by omega, h3⟩, h1, h2⟩
theorem Mt.marks {m : MS} {s : LS} (h : Mt m s) {g' : List (Int × Bool)} (gn : (g'.map (·.1)).Nodup) (gb : ∀ q ∈ g', 0 ≤ q.1 ∧ q.1 < (s.ents.length : Int)) (e : ∀ i : Nat, i < s.ents.length → ((getA g' (i : Int)).isSome = true ↔ (getA m.gone (i : Int)).isSome = true ∨ Lv s i)) : Mt { m with gone := g' } s.marks := by
  refine ⟨h.r, fun i hi => ?_, gn, gb, h.si, h.inn, h.ib, h.se, h.tk, h.t, h.cl, h.c⟩
  have hi : i < s.ents.length := hi
  rw [Bool.eq_iff_iff, marks_gone hi, e i hi, h.g i hi]
theorem Mt.nil (h : Int) (gs : List (Str × Int)) : Mt MS.nil (LS.new h gs) :=
  ⟨rfl, (by intro i hi; cases hi), List.nodup_nil, (by intro q hq; cases hq), (by intro i hi; cases hi), List.nodup_nil, (by intro q hq; cases hq), rfl, rfl, (by intro r tb e; cases e), rfl, (by intro c x y e; cases e)⟩
/-- an event's doing, before marks go -/
def LS.pre (s : LS) : Ev → LS
  | .put k v => { s with time := s.time + 1, ents := s.ents ++ [(k, some v)], gone := s.gone ++ [false], since := s.since ++ [none] }
  | .drop k => { s with time := s.time + 1, ents := s.ents ++ [(k, none)], gone := s.gone ++ [false], since := s.since ++ [none] }
  | .join r => { s with time := s.time + 1, seats := putA s.seats r 0, tabs := putA s.tabs r [] }
  | .read r u => { s with time := s.time + 1, tabs := putA s.tabs r (s.reads r u (s.told r u)), seats := putA s.seats r u }
  | .save r => { s with time := s.time + 1, copies := s.copies ++ [((getA s.seats r).getD 0, s.tab r)] }
  | .load r c => { s with time := s.time + 1, seats := putA s.seats r (s.copies.getD c.toNat (0, [])).1, tabs := putA s.tabs r (mrgA (s.copies.getD c.toNat (0, [])).2) }
  | .wait => { s with time := s.time + 1 }
theorem pre_marks (s : LS) (e : Ev) : (s.pre e).marks = s.does e := by cases e <;> rfl
theorem Mt.later {m : MS} {s : LS} (h : Mt m s) (t : Int) : Mt m { s with time := t } := ⟨h.r, h.g, h.gn, h.gb, h.si, h.inn, h.ib, h.se, h.tk, h.t, h.cl, h.c⟩
theorem Mt.row {m : MS} {s : LS} (h : Mt m s) (e : Str × Option Int) (t : Int) (gl : s.gone.length = s.ents.length) (sl : s.since.length = s.ents.length) : Mt { m with rows := m.rows ++ [e] } { s with time := t, ents := s.ents ++ [e], gone := s.gone ++ [false], since := s.since ++ [none] } := by
  have n1 : (s.ents ++ [e]).length = s.ents.length + 1 := by rw [List.length_append, List.length_singleton]
  have out : ∀ {β : Type} (l : List (Int × β)), (∀ q ∈ l, 0 ≤ q.1 ∧ q.1 < (s.ents.length : Int)) → getA l (s.ents.length : Int) = none := fun l hl => getA_none.mpr fun q hq e => by have := (hl q hq).2; omega
  refine ⟨by rw [h.r], fun i hi => ?_, h.gn, fun q hq => ?_, fun i hi => ?_, h.inn, fun q hq => ?_, h.se, h.tk, h.t, h.cl, h.c⟩
  · have hi : i < (s.ents ++ [e]).length := hi
    show _ = (s.gone ++ [false]).getD i true
    rw [getD_snoc, gl]
    split
    · rename_i z
      rw [z]
      show (getA m.gone _).isSome = false
      rw [out _ h.gb]
      rfl
    · exact h.g i (by omega)
  · have := h.gb q hq
    show 0 ≤ q.1 ∧ q.1 < ((s.ents ++ [e]).length : Int)
    omega
  · have hi : i < (s.ents ++ [e]).length := hi
    show _ = (s.since ++ [none]).getD i none
    rw [getD_snoc, sl]
    split
    · rename_i z
      rw [z]
      exact out _ h.ib
    · exact h.si i (by omega)
  · have := h.ib q hq
    show 0 ≤ q.1 ∧ q.1 < ((s.ents ++ [e]).length : Int)
    omega
theorem Mt.seat {m : MS} {s : LS} (h : Mt m s) {r z : Int} {tb tb' : List (Str × Int)} (t : Int) (h1 : SameA tb tb') (h2 : NdK tb) (h3 : NdK tb') : Mt { m with seats := putA m.seats r z, tabs := putA m.tabs r tb } { s with time := t, seats := putA s.seats r z, tabs := putA s.tabs r tb' } := by
  refine ⟨h.r, h.g, h.gn, h.gb, h.si, h.inn, h.ib, by rw [h.se], map_put h.tk r tb' tb, fun i x hx => ?_, h.cl, h.c⟩
  have hx : getA (putA m.tabs r tb) i = some x := hx
  show ∃ tb2, getA (putA s.tabs r tb') i = some tb2 ∧ _
  rw [getA_put2] at hx ⊢
  split at hx
  · rename_i c
    rw [if_pos c]
    cases hx
    exact ⟨tb', rfl, h1, h2, h3⟩
  · rename_i c
    rw [if_neg c]
    exact h.t i x hx
theorem Mt.copy {m : MS} {s : LS} (h : Mt m s) {z : Int} {tb tb' : List (Str × Int)} (t : Int) (h1 : SameA tb tb') (h2 : NdK tb) (h3 : NdK tb') : Mt { m with copies := m.copies ++ [(z, tb)] } { s with time := t, copies := s.copies ++ [(z, tb')] } := by
  refine ⟨h.r, h.g, h.gn, h.gb, h.si, h.inn, h.ib, h.se, h.tk, h.t, by rw [List.length_append, List.length_append, h.cl]; rfl, fun c x y hx hy => ?_⟩
  have hx : (m.copies ++ [(z, tb)])[c]? = some x := hx
  have hy : (s.copies ++ [(z, tb')])[c]? = some y := hy
  rw [List.getElem?_append] at hx hy
  rw [h.cl] at hx
  split at hx
  · rename_i c1
    rw [if_pos c1] at hy
    exact h.c c x y hx hy
  · rename_i c1
    rw [if_neg c1] at hy
    have c0 : c - s.copies.length = 0 := by
      have := (List.getElem?_eq_some_iff.mp hy).1
      rw [List.length_singleton] at this
      omega
    rw [c0] at hx hy
    cases hx
    cases hy
    exact ⟨rfl, h1, h2, h3⟩
def heldStep (acc : List (Str × Int)) (e : Str × Option Int) : List (Str × Int) := match e.2 with
  | some v => putA (delA acc e.1) e.1 v
  | none => delA acc e.1
theorem heldStep_nd {acc : List (Str × Int)} (h : NdK acc) (e : Str × Option Int) : NdK (heldStep acc e) := by
  have d : NdK (delA acc e.1) := List.Sublist.nodup (List.Sublist.map _ List.filter_sublist) h
  unfold heldStep
  split
  · exact put_keys _ _ _ d
  · exact d
theorem SameA.step {a b : List (Str × Int)} (h : SameA a b) (e : Str × Option Int) : SameA (heldStep a e) (tabStep b e) := fun k => by
  obtain ⟨x, o⟩ := e
  cases o with
  | some v =>
    show getA (putA (delA a x) x v) k = getA (putA b x v) k
    rw [getA_put2, getA_put2, getA_del, h k]
    by_cases c : k = x
    · rw [if_pos c, if_pos c]
    · rw [if_neg c, if_neg c, if_neg c]
  | none =>
    show getA (delA a x) k = getA (delA b x) k
    rw [getA_del, getA_del, h k]
theorem SameA.steps : ∀ {l : List (Str × Option Int)} {a b : List (Str × Int)}, SameA a b → NdK a → SameA (l.foldl heldStep a) (l.foldl tabStep b) ∧ NdK (l.foldl heldStep a)
  | [], _, _, h, n => ⟨h, n⟩
  | e :: l, _, _, h, n => SameA.steps (l := l) (h.step e) (heldStep_nd n e)

end
end PK
namespace PK
open PySem L2
section
variable {P : Program} {w : World} {K : PySem.W.Frag} {mg : Str → Option Value} {base : Heap}
theorem fresh_cons {H : Hp} {l : List Addr} {a : Addr} (h : ∀ x ∈ l, ∃ o, H x = some o) (n : H a = none) (nd : l.Nodup) : (a :: l).Nodup := List.nodup_cons.mpr ⟨(fun z => by
  obtain ⟨o, ho⟩ := h a z
  rw [n] at ho
  cases ho), nd⟩
theorem live_cons {H : Hp} {l : List Addr} {a : Addr} {o : HO} (h : ∀ x ∈ l, ∃ o, H x = some o) (n : H a = none) : ∀ x ∈ a :: l, ∃ u, upd H a o x = some u := fun x hx => by
  by_cases e : x = a
  · rw [e, upd_same]
    exact ⟨_, rfl⟩
  · rw [upd_ne e]
    exact h x ((List.mem_cons.mp hx).resolve_left e)
theorem wKs_merge {A : Nat → Addr} : mergeK [] (wKs A) = wKs A := by
  unfold wKs
  rfl
theorem w_mdict {σ : L2.St} {H : Hp} {Q : VK} (k : ∀ (A : Nat → Addr) (H' : Hp), Gr [] H H' → (∀ i, i < 8 → H (A i) = none) → MsAt H' A MS.nil [] [] [] → Q (.ref (A 0)) H') :
    tDisp [(tC (.str "rows"), tLst tNil), (tC (.str "gone"), tDNewK), (tC (.str "since"), tDNewK), (tC (.str "seats"), tDNewK), (tC (.str "tables"), tDNewK), (tC (.str "copies"), tLst tNil), (tC (.str "heard"), tLst tNil)] σ H Q := by
  intro w nw
  have g0 : Gr [] H (upd H w (.dK [])) := Gr.new nw
  have h0 : (upd H w (.dK [])) w = some (.dK []) := upd_same
  have l0 := live_cons (o := .dK []) (H := H) (l := []) (a := w) (by simp) nw
  have d0 : [w].Nodup := by simp
  generalize (upd H w (.dK [])) = H0 at *
  show 0 ≤ sizeLine ∧ ∀ a1, H0 a1 = none → _
  refine ⟨Nat.zero_le _, fun a1 n1 => ?_⟩
  have g1 : Gr [] H0 (upd H0 a1 (.lst [])) := Gr.new n1
  have h1 : (upd H0 a1 (.lst [])) a1 = some (.lst []) := upd_same
  have m1 := g0.live _ n1
  have d1 := fresh_cons l0 n1 d0
  have l1 := live_cons (o := .lst []) l0 n1
  have h0 := g1.k0 h0
  generalize (upd H0 a1 (.lst [])) = H1 at *
  show ∀ a2, H1 a2 = none → _
  intro a2 n2
  have g2 : Gr [] H1 (upd H1 a2 (.dK [])) := Gr.new n2
  have h2 : (upd H1 a2 (.dK [])) a2 = some (.dK []) := upd_same
  have m2 := (g0.trans g1).live _ n2
  have d2 := fresh_cons l1 n2 d1
  have l2 := live_cons (o := .dK []) l1 n2
  have h0 := g2.k0 h0
  have h1 := g2.k0 h1
  generalize (upd H1 a2 (.dK [])) = H2 at *
  show ∀ a3, H2 a3 = none → _
  intro a3 n3
  have g02 := (g0.trans g1).trans g2
  have g3 : Gr [] H2 (upd H2 a3 (.dK [])) := Gr.new n3
  have h3 : (upd H2 a3 (.dK [])) a3 = some (.dK []) := upd_same
  have m3 := g02.live _ n3
  have d3 := fresh_cons l2 n3 d2
  have l3 := live_cons (o := .dK []) l2 n3
  have h0 := g3.k0 h0
  have h1 := g3.k0 h1
  have h2 := g3.k0 h2
  generalize (upd H2 a3 (.dK [])) = H3 at *
  show ∀ a4, H3 a4 = none → _
  intro a4 n4
  have g03 := g02.trans g3
  have g4 : Gr [] H3 (upd H3 a4 (.dK [])) := Gr.new n4
  have h4 : (upd H3 a4 (.dK [])) a4 = some (.dK []) := upd_same
  have m4 := g03.live _ n4
  have d4 := fresh_cons l3 n4 d3
  have l4 := live_cons (o := .dK []) l3 n4
  have h0 := g4.k0 h0
  have h1 := g4.k0 h1
  have h2 := g4.k0 h2
  have h3 := g4.k0 h3
  generalize (upd H3 a4 (.dK [])) = H4 at *
  show ∀ a5, H4 a5 = none → _
  intro a5 n5
  have g04 := g03.trans g4
  have g5 : Gr [] H4 (upd H4 a5 (.dK [])) := Gr.new n5
  have h5 : (upd H4 a5 (.dK [])) a5 = some (.dK []) := upd_same
  have m5 := g04.live _ n5
  have d5 := fresh_cons l4 n5 d4
  have l5 := live_cons (o := .dK []) l4 n5
  have h0 := g5.k0 h0
  have h1 := g5.k0 h1
  have h2 := g5.k0 h2
  have h3 := g5.k0 h3
  have h4 := g5.k0 h4
  generalize (upd H4 a5 (.dK [])) = H5 at *
  show 0 ≤ sizeLine ∧ ∀ a6, H5 a6 = none → _
  refine ⟨Nat.zero_le _, fun a6 n6 => ?_⟩
  have g05 := g04.trans g5
  have g6 : Gr [] H5 (upd H5 a6 (.lst [])) := Gr.new n6
  have h6 : (upd H5 a6 (.lst [])) a6 = some (.lst []) := upd_same
  have m6 := g05.live _ n6
  have d6 := fresh_cons l5 n6 d5
  have l6 := live_cons (o := .lst []) l5 n6
  have h0 := g6.k0 h0
  have h1 := g6.k0 h1
  have h2 := g6.k0 h2
  have h3 := g6.k0 h3
  have h4 := g6.k0 h4
  have h5 := g6.k0 h5
  generalize (upd H5 a6 (.lst [])) = H6 at *
  show 0 ≤ sizeLine ∧ ∀ a7, H6 a7 = none → _
  refine ⟨Nat.zero_le _, fun a7 n7 => ?_⟩
  have g06 := g05.trans g6
  have g7 : Gr [] H6 (upd H6 a7 (.lst [])) := Gr.new n7
  have h7 : (upd H6 a7 (.lst [])) a7 = some (.lst []) := upd_same
  have m7 := g06.live _ n7
  have d7 := fresh_cons l6 n7 d6
  have h0 := g7.k0 h0
  have h1 := g7.k0 h1
  have h2 := g7.k0 h2
  have h3 := g7.k0 h3
  have h4 := g7.k0 h4
  have h5 := g7.k0 h5
  have h6 := g7.k0 h6
  have g07 := g06.trans g7
  generalize (upd H6 a7 (.lst [])) = H7 at *
  have A : { A : Nat → Addr // A 0 = w ∧ A 1 = a1 ∧ A 2 = a2 ∧ A 3 = a3 ∧ A 4 = a4 ∧ A 5 = a5 ∧ A 6 = a6 ∧ A 7 = a7 ∧ ∀ i, i < 8 → [a7, a6, a5, a4, a3, a2, a1, w][7 - i]? = some (A i) } := ⟨fun i => match i with | 0 => w | 1 => a1 | 2 => a2 | 3 => a3 | 4 => a4 | 5 => a5 | 6 => a6 | _ => a7, rfl, rfl, rfl, rfl, rfl, rfl, rfl, rfl, fun i hi => by
    have z : i = 0 ∨ i = 1 ∨ i = 2 ∨ i = 3 ∨ i = 4 ∨ i = 5 ∨ i = 6 ∨ i = 7 := by omega
    rcases z with rfl | rfl | rfl | rfl | rfl | rfl | rfl | rfl <;> rfl⟩
  obtain ⟨A, e0, e1, e2, e3, e4, e5, e6, e7, ix⟩ := A
  subst e0 e1 e2 e3 e4 e5 e6 e7
  refine ⟨h0, wKs A, rfl, by show 7 ≤ 15; decide, ?_⟩
  rw [wKs_merge]
  have inj : ∀ i j, i < 8 → j < 8 → A i = A j → i = j := fun i j hi hj e => by
    have z1 := ix i hi
    have z2 := ix j hj
    rw [e] at z1
    have z := (List.getElem?_inj (show 7 - i < _ by show 7 - i < 8; omega) d7).mp (z1.trans z2.symm)
    omega
  have gw : Gr [A 0] H7 (upd H7 (A 0) (.dK (wKs A))) := Gr.mutD h0 (by simp)
  have n : ∀ i j, i < 8 → j < 8 → i ≠ j → A i ≠ A j := fun i j hi hj ne e => ne (inj i j hi hj e)
  refine k A _ (g07.own gw nw) (fun i hi => ?_) ⟨inj, (by intro q hq; cases hq), List.nodup_nil, List.nodup_nil, (by intro q hq; cases hq), upd_same, ⟨[], by rw [upd_ne (n 1 0 (by decide) (by decide) (by decide))]; exact h1, .nil⟩, by rw [upd_ne (n 2 0 (by decide) (by decide) (by decide))]; exact h2, by rw [upd_ne (n 3 0 (by decide) (by decide) (by decide))]; exact h3, by rw [upd_ne (n 4 0 (by decide) (by decide) (by decide))]; exact h4, by rw [upd_ne (n 5 0 (by decide) (by decide) (by decide))]; exact h5, .nil, ⟨[], by rw [upd_ne (n 6 0 (by decide) (by decide) (by decide))]; exact h6, .nil⟩, by rw [upd_ne (n 7 0 (by decide) (by decide) (by decide))]; exact h7, (by intro d hd; cases hd)⟩
  have z : i = 0 ∨ i = 1 ∨ i = 2 ∨ i = 3 ∨ i = 4 ∨ i = 5 ∨ i = 6 ∨ i = 7 := by omega
  rcases z with rfl | rfl | rfl | rfl | rfl | rfl | rfl | rfl <;> assumption
abbrev s_law_bare : Stmt := topS 20
abbrev N_law_bare : List Str := []
abbrev ps_law_bare : List Str := []
theorem sc_law_bare : FnScope N_law_bare ps_law_bare (defScope s_law_bare) := ⟨rfl, rfl, rfl, by decide +kernel, rfl, by decide +kernel, by decide +kernel⟩
def spMBare : Sp := fun vs H Q _ => vs = [] ∧ ∀ (A : Nat → Addr) H', Gr [] H H' → (∀ i, i < 8 → H (A i) = none) → MsAt H' A MS.nil [] [] [] → Q (.ref (A 0)) H'
theorem has_mbare (D : Df K mg "_law_bare" s_law_bare ps_law_bare) (T : Txt mg) : Has P w K mg base 1 "_law_bare" ps_law_bare spMBare := Has.mk' D fun f fd F => by
  refine F.ok sc_law_bare (fun vs H Q E h => ?_) (fun cdv A' outer s' H vs Q E hr h => ?_)
  · obtain ⟨rfl, _⟩ := h
    rfl
  · obtain ⟨rfl, q⟩ := h
    refine ⟨_, (pss_one (ps_ret (pe_disp (pps_cons pe_str (pe_lst pa_nil) (pps_cons pe_str pe_dnewK (pps_cons pe_str pe_dnewK (pps_cons pe_str pe_dnewK (pps_cons pe_str pe_dnewK (pps_cons pe_str (pe_lst pa_nil) (pps_cons pe_str (pe_lst pa_nil) pps_nil))))))) (by rfl) (by rfl) (fun z => by cases z) (by decide)))), ?_⟩
    walk_at "w"
    refine w_mdict fun A H' g nA ma => q A H' g nA ma

end
end PK
namespace PK
open PySem L2
section
variable {P : Program} {w : World} {K : PySem.W.Frag} {mg : Str → Option Value} {base : Heap}
abbrev s_law_least : Stmt := topS 21
abbrev N_law_least : List Str := ["_law_w", "_law_watch", "_law_found", "_law_sort_so", "_law_number", "_law_own"]
abbrev ps_law_least : List Str := ["_law_w", "_law_watch"]
theorem sc_law_least : FnScope N_law_least ps_law_least (defScope s_law_least) := ⟨rfl, rfl, rfl, by decide +kernel, rfl, by decide +kernel, by decide +kernel⟩
def spMLeast : Sp := fun vs H Q _ => ∃ (A : Nat → Addr) (m : MS) (L : List (Int × Addr)) (cd : List Addr) (hs : List V) (s : LS) (t : Addr) (xs : List V) (gs : List (Str × Int)), vs = [.ref (A 0), .ref t] ∧ MsAt H A m L cd hs ∧ Mt m s ∧ H t = some (.tup xs) ∧ Tps H xs (gs.map gdV) ∧ (∀ g ∈ gs, GdO g) ∧ gs.length ≤ 1000 ∧
  ∀ (x : Int) H', Gr [] H H' → (∀ i : Int, i < x ↔ i < 99 ∧ ∀ g ∈ gs, s.okg i g) → Q (.int x) H'
theorem cut_one {xs : List V} {c : Nat} : cutV xs (some (c : Int)) (some ((c : Int) + 1)) = (match xs[c]? with | some x => [x] | none => []) := by
  unfold cutV
  rw [show (c : Int) + 1 = ((c + 1 : Nat) : Int) from by omega, HT.sIx_nat, HT.sIx_nat]
  by_cases h : c < xs.length
  · rw [Nat.min_eq_left (by omega), Nat.min_eq_left (by omega), List.getElem?_eq_getElem h, show c + 1 - c = 1 from by omega, List.drop_eq_getElem_cons h]
    rfl
  · rw [List.getElem?_eq_none (by omega), Nat.min_eq_right (by omega), Nat.min_eq_right (by omega), Nat.sub_self]
    rfl
theorem has_mleast (D : Df K mg "_law_least" s_law_least ps_law_least) (T : Txt mg) : Has P w K mg base 1 "_law_least" ps_law_least spMLeast := Has.mk' D fun f fd F => by
  refine F.ok sc_law_least (fun vs H Q E h => ?_) (fun cdv A' outer s' H vs Q E hr h => ?_)
  · obtain ⟨A, m, L, cd, hs, s, t, xs, gs, rfl, _⟩ := h
    rfl
  · obtain ⟨A, m, L, cd, hs, s, t, xs, gs, rfl, ma, mt, ht, tp, gO, gl, q⟩ := h
    refine ⟨_, (pss_cons (ps_set (i := 2) sc_law_least.nd rfl (Or.inl rfl) (pe_lst (pa_cons pe_int pa_nil)))
(pss_cons (ps_for PassesOwn.never rfl (pi_tup (pv 1)) (pg_tup rfl (pgs_cons (pg_name (i := 3) sc_law_least.nd rfl (Or.inl rfl)) (pgs_cons (pg_name (i := 4) sc_law_least.nd rfl (Or.inl rfl)) pgs_nil)))
  (pss_one (ps_if (pt_cmpR op_eq (pv 3) pe_str (nomark _))
    (pss_one (ps_set (i := 2) sc_law_least.nd rfl (Or.inl rfl) (pe_op op_cat (pv 2) (pe_lc (own := [("_law_own", 5)]) (g := gName 5)  rfl sc_law_least.nd (pi_list (pe_slice (sl_listK (K := K)) (pe_dget (hu_of hr) (pv 0) pe_str (fun _ _ => rfl)) (po_some (pv 4)) (po_some (pe_op op_add (pv 4) pe_int)))) (blkOk_by (own := [("_law_own", 5)]) (N := N_law_least) (sc := defScope s_law_least) (by decide +kernel)) (fun _ _ _ _ _ => pg_name (i := 5) sc_law_least.nd rfl (Or.inl rfl)) (fun _ _ _ _ _ => pts_nil) (fun _ _ _ _ _ => (pe_ix (ix_tupK (K := K)) (pv 5) pe_int (fun _ _ => rfl)))))))
    (pss_one (ps_if (pt_cmp (pc_din (hu_of hr) (pv 4) (pe_dget (hu_of hr) (pv 0) pe_str (fun _ _ => rfl))))
      (pss_one (ps_expr (pe_bm PySem.F.plainAttrs_list PySem.F.slot_list_append PySem.F.type_list_append mt_append (pv 2) (pa_cons (pe_dget (hu_of hr) (pe_dget (hu_of hr) (pv 0) pe_str (fun _ _ => rfl)) (pv 4) (fun _ _ => rfl)) pa_nil))))
      pss_nil)))))
(pss_one (ps_ret (pe_callB (cr_min rfl) (by rfl) T.m_min (by decide +kernel) (pa_cons (pv 2) pa_nil)))))), ?_⟩
    walk_at "w"
    refine ⟨WK.sz, fun f0 nf0 => ?_⟩
    have g0 : Gr [] H (upd H f0 (.lst [.int 99])) := Gr.new nf0
    have hf0 : (upd H f0 (.lst [.int 99])) f0 = some (.lst (([99] : List Int).map V.int)) := upd_same
    generalize (upd H f0 (.lst [.int 99])) = H0 at *
    walk_at "w"
    refine ⟨⟨_, SqT.of (g0.tup _ _ ht)⟩, lp_tup (xs := xs) (fun j σ' H' => ∃ f1 ns y3 y4, σ' = [some (.ref (A 0)), some (.ref t), some (.ref f1), y3, y4, none] ∧ Gr [] H H' ∧ H f1 = none ∧ H' f1 = some (.lst (ns.map V.int)) ∧ 0 < ns.length ∧ ns.length ≤ j + 1 ∧ ∀ i : Int, (∀ y ∈ ns, i < y) ↔ i < 99 ∧ ∀ g ∈ gs.take j, s.okg i g)
      ⟨f0, [99], none, none, rfl, g0, nf0, hf0, by decide, Nat.le_refl _, fun i => by simp⟩ (fun j σ' H' _ ⟨_, _, _, _, _, g, _⟩ => SqT.of (g.tup _ _ ht)) ?_ ?_⟩
    · rintro j x _ H1 ex ⟨f1, ns, y3, y4, rfl, g1, nf1, hf1, n0, nl, iff⟩
      obtain ⟨y, e1, c, rfl, hc⟩ := pr_get tp ex
      obtain ⟨gd, hgd, rfl⟩ : ∃ gd, gs[j]? = some gd ∧ y = gdV gd := by
        rw [List.getElem?_map] at e1
        cases e : gs[j]? with
        | none => rw [e] at e1; cases e1
        | some gd => rw [e] at e1; exact ⟨gd, rfl, (Option.some.inj e1).symm⟩
      have jl := (List.getElem?_eq_some_iff.mp hgd).1
      obtain ⟨gn, gw⟩ := gO gd (List.mem_of_getElem? hgd)
      have hc1 := g1.tup _ _ hc
      have tk := take_snoc hgd
      have ma1 := ma.k0 g1
      obtain ⟨gk, gv⟩ := gd
      obtain ⟨k, rfl⟩ : ∃ k : Nat, gv = (k : Int) := ⟨gv.toNat, by have : (0 : Int) ≤ gv := gn; omega⟩
      have add : ∀ (zs : List Int), (∀ i : Int, (∀ y ∈ zs, i < y) ↔ s.okg i (gk, (k : Int))) → ∀ i : Int, (∀ y ∈ ns ++ zs, i < y) ↔ i < 99 ∧ ∀ g ∈ gs.take (j + 1), s.okg i g := fun zs hz i => by
        rw [tk]
        constructor
        · intro h
          obtain ⟨h1, h2⟩ := (iff i).mp fun y hy => h y (List.mem_append_left _ hy)
          refine ⟨h1, fun g hg => ?_⟩
          rcases List.mem_append.mp hg with z | z
          · exact h2 g z
          · rw [List.mem_singleton.mp z]
            exact (hz i).mp fun y hy => h y (List.mem_append_right _ hy)
        · rintro ⟨h1, h2⟩ y hy
          rcases List.mem_append.mp hy with z | z
          · exact (iff i).mpr ⟨h1, fun g hg => h2 g (List.mem_append_left _ hg)⟩ y z
          · exact (hz i).mpr (h2 _ (List.mem_append_right _ (List.mem_singleton.mpr rfl))) y z
      walk_at "w"
      walk_at "i"
      rcases gw with rfl | rfl
      · refine WK.w_ifP rfl ?_
        walk_at "w"
        refine ⟨A 0, _, rfl, ma1.d6, ?_⟩
        walk_at "w"
        obtain ⟨cs, c1, c2⟩ := ma1.f6
        refine ⟨A 6, cs, rfl, SqL.of c1, fun p np => ?_⟩
        have g2 : Gr [] H1 (upd H1 p (.lst (cutV cs (some (k : Int)) (some ((k : Int) + 1))))) := Gr.new np
        have hp : (upd H1 p (.lst (cutV cs (some (k : Int)) (some ((k : Int) + 1))))) p = some (.lst (match cs[k]? with | some x => [x] | none => [])) := by rw [upd_same, cut_one]
        have hf2 := g2.k0 hf1
        generalize (upd H1 p (.lst (cutV cs (some (k : Int)) (some ((k : Int) + 1))))) = H2 at *
        refine ⟨p, rfl, ⟨_, SqL.of hp⟩, ?_⟩
        have fin : ∀ (zs : List Int) (D : Addr) (H3 : Hp), Gr [] H2 H3 → H3 D = some (.lst (zs.map V.int)) → zs.length ≤ 1 → (∀ i : Int, (∀ y ∈ zs, i < y) ↔ s.okg i ("copy", (k : Int))) → rCat (.ref f1) (.ref D) H3 fun z H4 => ∃ (f2 : Addr) (ns : List Int) (y3 y4 : Option V), ([some (.ref (A 0)), some (.ref t), some z, some (.str "copy"), some (.int (k : Int)), none] : L2.St) = [some (.ref (A 0)), some (.ref t), some (.ref f2), y3, y4, none] ∧ Gr [] H H4 ∧ H f2 = none ∧ H4 f2 = some (.lst (ns.map V.int)) ∧ 0 < ns.length ∧ ns.length ≤ j + 1 + 1 ∧ ∀ i : Int, (∀ y ∈ ns, i < y) ↔ i < 99 ∧ ∀ g ∈ gs.take (j + 1), s.okg i g := by
          intro zs D H3 g3 hD zl hz
          refine ⟨f1, D, _, _, rfl, rfl, g3.k0 hf2, hD, Nat.le_of_lt (WK.sz' (by rw [List.length_map, List.length_map]; omega)), fun p4 np4 => ?_⟩
          refine ⟨p4, ns ++ zs, _, _, rfl, ((g1.trans g2).trans g3).trans (Gr.new np4), ((g1.trans g2).trans g3).live _ np4, by rw [upd_same, List.map_append], by rw [List.length_append]; omega, by rw [List.length_append]; omega, add zs hz⟩
        cases ec : cs[k]? with
        | none =>
          rw [ec] at hp
          refine lc_go (walk_list (K := K) (a := p) (xs := [])) (fun D j acc H' => Gr [] H2 H' ∧ acc = []) (fun D nD => ⟨Gr.new nD, rfl⟩) (fun D j acc H' _ ⟨g, _⟩ => SqL.of (g.k0 hp)) (fun D j acc x H' H2 nD hj => absurd hj (Nat.not_lt_zero _)) ?_
          rintro D acc H3 nD hD la ⟨g3, rfl⟩
          have cl : s.copies.length ≤ k := by
            have z := List.getElem?_eq_none_iff.mp ec
            rw [c2.length, mt.cl] at z
            exact z
          exact fin [] D H3 g3 hD (Nat.zero_le _) fun i => ⟨fun _ => ⟨fun _ h => by omega, fun h => absurd (show ("copy" : Str) = "reader" from h) (by decide +kernel)⟩, fun _ y hy => by cases hy⟩
        | some x =>
          rw [ec] at hp
          obtain ⟨cp, hcp, a, d, rfl, _, ha, _⟩ := pr_get c2 ec
          have kl : k < s.copies.length := by rw [← mt.cl]; exact (List.getElem?_eq_some_iff.mp hcp).1
          have hy := List.getElem?_eq_getElem kl
          have e1 := (mt.c k cp _ hcp hy).1
          have e2 : s.copies.getD ((k : Int).toNat) (0, []) = s.copies[k] := by rw [Int.toNat_natCast, List.getD_eq_getElem?_getD, hy]; rfl
          refine lc_go (walk_list (K := K) (a := p) (xs := [.ref a])) (fun D j acc H' => Gr [] H2 H' ∧ acc = List.replicate j (V.int cp.1)) (fun D nD => ⟨Gr.new nD, rfl⟩) (fun D j acc H' _ ⟨g, _⟩ => SqL.of (g.k0 hp)) ?_ ?_
          · rintro D n _ x H4 H5 nD hn hD la ⟨g4, rfl⟩ ⟨rfl, ex⟩
            obtain rfl : n = 0 := by
              have : n < 1 := hn
              omega
            cases ex
            have ha4 := g4.tup _ _ (g2.tup _ _ ha)
            walk_at "w"
            refine ⟨rfl, ?_⟩
            walk_at "w"
            refine WK.w_ifP rfl ?_
            walk_at "w"
            exact lc_yes hD la (by decide) ⟨g4.own (Gr.mutL hD (by simp)) nD, rfl⟩
          · rintro D _ H3 nD hD la ⟨g3, rfl⟩
            refine fin [cp.1] D H3 g3 hD (Nat.le_refl _) fun i => ?_
            constructor
            · intro h
              refine ⟨fun _ _ => ?_, fun h => absurd (show ("copy" : Str) = "reader" from h) (by decide +kernel)⟩
              show i < (s.copies.getD ((k : Int).toNat) (0, [])).1
              rw [e2, ← e1]
              exact h _ (List.mem_singleton.mpr rfl)
            · intro h y hy
              have z := h.1 rfl (show (k : Int) < s.copies.length by omega)
              have z : i < (s.copies.getD ((k : Int).toNat) (0, [])).1 := z
              rw [e2, ← e1] at z
              rw [List.mem_singleton.mp hy]
              exact z
      · refine WK.w_ifN (by decide +kernel) ?_
        walk_at "w"
        walk_at "i"
        have sg := seats_get ma1.f4 (k : Int)
        refine ⟨A 0, _, rfl, ma1.d4, A 4, _, rfl, sg, _, rfl, ?_⟩
        cases es : getA m.seats (k : Int) with
        | none =>
          refine WK.w_ifN (by simp) ?_
          walk_at "w"
          refine ⟨f1, ns, _, _, rfl, g1, nf1, hf1, n0, by omega, ?_⟩
          have z := add [] fun i => ⟨fun _ => ⟨fun h => absurd (show ("reader" : Str) = "copy" from h) (by decide +kernel), fun _ q hq => by rw [← mt.se] at hq; have hq : getA m.seats (k : Int) = some q := hq; rw [es] at hq; cases hq⟩, fun _ y hy => by cases hy⟩
          rw [List.append_nil] at z
          exact z
        | some q0 =>
          refine WK.w_ifP (by simp) ?_
          walk_at "w"
          refine WK.w_tyL hf1 ?_
          walk_at "w"
          rw [es] at sg
          refine ⟨A 0, _, rfl, ma1.d4, ?_⟩
          walk_at "w"
          refine ⟨A 4, .int q0, rfl, sg, ?_⟩
          walk_at "w"
          refine ⟨f1, _, _, rfl, rfl, hf1, WK.sz' (by rw [List.length_map]; omega), ?_⟩
          refine ⟨f1, ns ++ [q0], _, _, rfl, g1.own (Gr.mutL hf1 (by simp)) nf1, nf1, by rw [upd_same, List.map_append]; rfl, by rw [List.length_append]; omega, by rw [List.length_append, List.length_singleton]; omega, add [q0] fun i => ?_⟩
          constructor
          · intro h
            refine ⟨fun h => absurd (show ("reader" : Str) = "copy" from h) (by decide +kernel), fun _ q hq => ?_⟩
            rw [← mt.se] at hq
            have hq : getA m.seats (k : Int) = some q := hq
            rw [es] at hq
            cases hq
            exact h _ (List.mem_singleton.mpr rfl)
          · intro h y hy
            rw [List.mem_singleton.mp hy]
            exact h.2 rfl q0 (by rw [← mt.se]; exact es)
    · rintro _ H1 ⟨f1, ns, y3, y4, rfl, g1, nf1, hf1, n0, nl, iff⟩
      have xl : xs.length = gs.length := by rw [tp.length, List.length_map]
      rw [xl, List.take_length] at iff
      walk_at "w"
      refine ⟨f1, ns, rfl, SqL.of hf1, n0, fun x hx hmin => ?_⟩
      refine q x H1 g1 fun i => ?_
      rw [← iff i]
      exact ⟨fun h y hy => Int.lt_of_lt_of_le h (hmin y hy), fun h => h x hx⟩

end
end PK
namespace PK
open PySem L2
section
variable {P : Program} {w : World} {K : PySem.W.Frag} {mg : Str → Option Value} {base : Heap}
abbrev s_law_leave : Stmt := topS 22
abbrev N_law_leave : List Str := ["_law_w", "_law_keep", "_law_spot", "_law_watch", "_law_least_here", "_law_k", "_law_key_so", "_law_worth"]
abbrev ps_law_leave : List Str := ["_law_w", "_law_keep", "_law_spot", "_law_watch"]
theorem sc_law_leave : FnScope N_law_leave ps_law_leave (defScope s_law_leave) := ⟨rfl, rfl, rfl, by decide +kernel, rfl, by decide +kernel, by decide +kernel⟩
theorem gone_put {a : Addr} {l : List (Int × Bool)} {H : Hp} (h : H a = some (.dK (goneV l))) (hl : l.length ≤ 1000) (r : Int) (q : Bool) : DPut H a (.int r) (.bl q) (upd H a (.dK (goneV (putA l r q)))) := by
  have z := DPut.k (k := .inl r) (v := .bl q) h (WK.sz' (by unfold goneV; rw [List.length_map]; omega))
  rw [show putK (goneV l) (.inl r) (.bl q) = goneV (putA l r q) from put_map Sum.inl inl_inj V.bl l r q] at z
  exact z
theorem gone_get {a : Addr} {l : List (Int × Bool)} {H : Hp} (h : H a = some (.dK (goneV l))) (r : Int) : DGet H a (.int r) ((getA l r).map V.bl) := by
  have q := DGet.k (k := .inl r) h
  rw [show valV (goneV l) (.inl r) = (getA l r).map V.bl from get_map Sum.inl inl_inj V.bl l r] at q
  exact q
def spMLeave : Sp := fun vs H Q _ => ∃ (A : Nat → Addr) (m : MS) (L : List (Int × Addr)) (cd : List Addr) (hs : List V) (s : LS) (t : Addr) (xs : List V) (keep spot : Int), vs = [.ref (A 0), .int keep, .int spot, .ref t] ∧ MsAt H A m L cd hs ∧ Mt m s ∧ H t = some (.tup xs) ∧ Tps H xs (s.guards.map gdV) ∧ (∀ g ∈ s.guards, GdO g) ∧ s.guards.length ≤ 1000 ∧
  s.hold = keep ∧ s.time = spot ∧ s.ents.length ≤ 99 ∧ s.Ok 1000 ∧ ∀ m' H', Gr (ownM A L) H H' → MsAt H' A m' L cd hs → Mt m' s.marks → Q .non H'
theorem has_mleave (D : Df K mg "_law_leave" s_law_leave ps_law_leave) (T : Txt mg) (G_law_least : Has P w K mg base 1 "_law_least" ps_law_least spMLeast) : Has P w K mg base 2 "_law_leave" ps_law_leave spMLeave := Has.mk' D fun f fd F => by
  refine F.ok sc_law_leave (fun vs H Q E h => ?_) (fun cdv A' outer s' H vs Q E hr h => ?_)
  · obtain ⟨A, m, L, cd, hs, s, t, xs, keep, spot, rfl, _⟩ := h
    rfl
  · obtain ⟨A, m, L, cd, hs, s, t, xs, keep, spot, rfl, ma, mt, ht, tp, gO, gl, ek, et, e99, ok, q⟩ := h
    refine ⟨_, (pss_cons (ps_set (i := 4) sc_law_leave.nd rfl (Or.inl rfl) (pe_callH G_law_least (hr.mono (by decide)) (by rfl) (pa_cons (pv 0) (pa_cons (pv 3) pa_nil))))
(pss_one (ps_for PassesOwn.never rfl (pi_enum (by rfl) T.m_enumerate (pa_cons (pe_dget (hu_of hr) (pv 0) pe_str (fun _ _ => rfl)) pa_nil)) (pg_tup rfl (pgs_cons (pg_name (i := 5) sc_law_leave.nd rfl (Or.inl rfl)) (pgs_cons (pg_tup rfl (pgs_cons (pg_name (i := 6) sc_law_leave.nd rfl (Or.inl rfl)) (pgs_cons (pg_name (i := 7) sc_law_leave.nd rfl (Or.inl rfl)) pgs_nil))) pgs_nil)))
  (pss_one (ps_if (PW.pt (pw_and (pt_cmpR op_isN (pv 7) pe_non (nomark _)) (pw_and (pt_cmp (pc_din (hu_of hr) (pv 5) (pe_dget (hu_of hr) (pv 0) pe_str (fun _ _ => rfl)))) (pw_and (pt_cmpR op_le (pe_op op_add (pe_dget (hu_of hr) (pe_dget (hu_of hr) (pv 0) pe_str (fun _ _ => rfl)) (pv 5) (fun _ _ => rfl)) (pv 1)) (pv 2) (nomark _)) (pw_and1 (pt_cmpR op_lt (pv 5) (pv 4) (nomark _)))))))
    (pss_one (ps_dput (hu_of hr) (pe_dget (hu_of hr) (pv 0) pe_str (fun _ _ => rfl)) (pv 5) pe_bl rfl))
    pss_nil))))), ?_⟩
    walk_at "w"
    refine ⟨A, m, L, cd, hs, s, t, xs, s.guards, rfl, ma, mt, ht, tp, gO, gl, fun x H1 g1 hx => ?_⟩
    have ma1 := ma.k0 g1
    walk_at "w"
    refine w_enum ?_
    walk_at "w"
    refine ⟨A 0, _, rfl, ma1.d1, ?_⟩
    walk_at "w"
    obtain ⟨rs, r1, r2⟩ := ma1.f1
    have rl : rs.length = s.ents.length := by rw [r2.length, List.length_map, mt.r]
    refine ⟨A 1, rs, rfl, SqL.of r1, ?_⟩
    refine lp_it (walk_enum (K := K) (a := A 1) (xs := rs)) (fun i σ' H' => ∃ y5 y6 y7 g', σ' = [some (.ref (A 0)), some (.int keep), some (.int spot), some (.ref t), some (.int x), y5, y6, y7] ∧ Gr (ownM A L) H1 H' ∧ MsAt H' A { m with gone := g' } L cd hs ∧ H' (A 1) = some (.lst rs) ∧ (g'.map (·.1)).Nodup ∧ (∀ q ∈ g', 0 ≤ q.1 ∧ q.1 < (s.ents.length : Int)) ∧
        ∀ k : Nat, k < s.ents.length → ((getA g' (k : Int)).isSome = true ↔ (getA m.gone (k : Int)).isSome = true ∨ (k < i ∧ Lv s k)))
      ⟨none, none, none, m.gone, rfl, Gr.refl _ _, ma1, r1, mt.gn, mt.gb, fun k hk => ⟨.inl, fun h => h.elim id fun h => absurd h.1 (Nat.not_lt_zero _)⟩⟩ (fun i σ' H' _ ⟨_, _, _, _, _, _, _, h, _⟩ => SqL.of h) ?_ ?_
    · rintro i y _ H2 H3 hi ⟨y5, y6, y7, g', rfl, g2, ma2, hr2, gn, gb, iff⟩ ⟨tt', v1, v2, rfl, nt, rfl, e1, e2⟩
      cases e1
      rw [rl] at hi
      obtain ⟨rw2, e3, c, rfl, hc⟩ := pr_get r2 e2
      have ee : rw2 = rwV (enAt s.ents i) := by
        rw [List.getElem?_map, mt.r, List.getElem?_eq_getElem hi] at e3
        unfold enAt
        rw [List.getD_eq_getElem?_getD, List.getElem?_eq_getElem hi]
        exact (Option.some.inj e3).symm
      subst ee
      have g3 : Gr [] H2 (upd H2 tt' (.tup [.int (i : Nat), .ref c])) := Gr.new nt
      have ht3 : (upd H2 tt' (.tup [.int (i : Nat), .ref c])) tt' = some (.tup [.int (i : Nat), .ref c]) := upd_same
      have ma3 := ma2.k0 g3
      have hr3 := g3.k0 hr2
      have hc3 := g3.tup _ _ (g2.tup _ _ hc)
      have g13 := g2.trans (g3.mono (by simp))
      generalize (upd H2 tt' (.tup [.int (i : Nat), .ref c])) = H3 at *
      have hxi : (i : Int) < x ↔ ∀ g ∈ s.guards, s.okg i g := (hx i).trans ⟨fun h => h.2, fun h => ⟨by omega, h⟩⟩
      have si := mt.si i hi
      have skip : ¬ Lv s i → ∀ k : Nat, k < s.ents.length → ((getA g' (k : Int)).isSome = true ↔ (getA m.gone (k : Int)).isSome = true ∨ (k < i + 1 ∧ Lv s k)) := fun n k hk => by
        rw [iff k hk]
        refine or_congr Iff.rfl ⟨fun h => ⟨by omega, h.2⟩, fun h => ⟨?_, h.2⟩⟩
        by_cases e : k = i
        · rw [e] at h
          exact absurd h.2 n
        · omega
      have sg := seats_get ma3.f3 (i : Int)
      have sg : DGet H3 (A 3) (.int (i : Int)) ((getA m.since (i : Int)).map V.int) := sg
      rw [si] at sg
      have lv : Lv s i ↔ (enAt s.ents i).2 = none ∧ (∃ t, s.since.getD i none = some t ∧ t ≤ s.time - s.hold) ∧ ∀ g ∈ s.guards, s.okg i g := Iff.rfl
      walk_at "w"
      refine WK.w_if ?_
      refine WK.w_and ?_
      walk_at "w"
      cases eo : (enAt s.ents i).2 with
      | some v =>
        rw [eo] at lv
        refine WK.w_ifN (by simp [optV]) ?_
        refine WK.w_ifN (by decide) ?_
        walk_at "w"
        exact ⟨_, _, _, g', rfl, g13, ma3, hr3, gn, gb, skip fun z => by cases (lv.mp z).1⟩
      | none =>
        rw [eo] at lv
        refine WK.w_ifP rfl ?_
        refine WK.w_and ?_
        walk_at "w"
        refine ⟨A 0, _, rfl, ma3.d3, ?_⟩
        refine ⟨A 3, _, rfl, sg, ?_⟩
        walk_at "w"
        cases es : s.since.getD i none with
        | none =>
          rw [es] at lv
          refine WK.w_ifN (by simp) ?_
          refine WK.w_ifN (by decide) ?_
          walk_at "w"
          exact ⟨_, _, _, g', rfl, g13, ma3, hr3, gn, gb, skip fun z => by obtain ⟨_, ⟨_, h, _⟩, _⟩ := lv.mp z; cases h⟩
        | some st =>
          rw [es] at lv sg
          refine WK.w_ifP (by simp) ?_
          refine WK.w_and ?_
          walk_at "w"
          refine ⟨A 0, _, rfl, ma3.d3, ?_⟩
          walk_at "w"
          refine ⟨A 3, .int st, rfl, sg, ?_⟩
          walk_at "w"
          refine WK.w_2 (fun h1 => ?_) (fun h1 => ?_)
          · walk_at "w"
            refine WK.w_2 (fun h2 => ?_) (fun h2 => ?_)
            · walk_at "w"
              refine ⟨A 0, _, rfl, ma3.d2, ?_⟩
              walk_at "w"
              have gl : g'.length ≤ 99 := by
                have z := nodup_lt (n := s.ents.length) gn fun x hx => by
                  obtain ⟨q, hq, rfl⟩ := List.mem_map.mp hx
                  exact gb q hq
                rw [List.length_map] at z
                omega
              refine ⟨A 2, _, rfl, gone_put ma3.f2 (show g'.length ≤ 1000 by omega) i true, ?_⟩
              obtain ⟨ma4, g4⟩ := ma3.setG (putA g' (i : Int) true)
              have hr4 : (upd H3 (A 2) (.dK (goneV (putA g' (i : Int) true)))) (A 1) = some (.lst rs) := by rw [(ma3.cell (i := 2) (by decide) _).1 1 (by decide) (by decide)]; exact hr3
              have yes : Lv s i := lv.mpr ⟨rfl, ⟨st, rfl, by omega⟩, hxi.mp h2⟩
              refine ⟨_, _, _, putA g' (i : Int) true, rfl, g13.trans g4, ma4, hr4, put_keys _ _ _ gn, fun q hq => ?_, fun k hk => ?_⟩
              · rcases putA_mem hq with z | z
                · rw [z]
                  exact ⟨Int.natCast_nonneg i, show (i : Int) < _ by omega⟩
                · exact gb q z
              · rw [getA_put2]
                split
                · rename_i e
                  obtain rfl : k = i := by omega
                  exact ⟨fun _ => .inr ⟨by omega, yes⟩, fun _ => rfl⟩
                · rename_i e
                  rw [iff k hk]
                  refine or_congr Iff.rfl ⟨fun h => ⟨by omega, h.2⟩, fun h => ⟨?_, h.2⟩⟩
                  have : k ≠ i := fun z => e (by rw [z])
                  omega
            · walk_at "w"
              exact ⟨_, _, _, g', rfl, g13, ma3, hr3, gn, gb, skip fun z => h2 (hxi.mpr (lv.mp z).2.2)⟩
          · refine WK.w_ifN (by decide) ?_
            walk_at "w"
            exact ⟨_, _, _, g', rfl, g13, ma3, hr3, gn, gb, skip fun z => by obtain ⟨_, ⟨t2, h, h3⟩, _⟩ := lv.mp z; cases h; omega⟩
    · rintro _ H2 ⟨y5, y6, y7, g', rfl, g2, ma2, hr2, gn, gb, iff⟩
      walk_at "w"
      refine q _ H2 ((g1.mono (by simp)).trans g2) ma2 (mt.marks gn gb fun k hk => ?_)
      rw [iff k hk, rl]
      exact or_congr Iff.rfl ⟨fun h => h.2, fun h => ⟨hk, h⟩⟩

end
end PK
namespace PK
open PySem L2
section
variable {P : Program} {w : World} {K : PySem.W.Frag} {mg : Str → Option Value} {base : Heap}
theorem cut_to {xs : List V} {n : Nat} (h : n ≤ xs.length) : cutV xs none (some (n : Int)) = xs.take n := by
  unfold cutV
  rw [HT.sIx_nat]
  show (xs.drop 0).take (min n xs.length - 0) = _
  rw [List.drop_zero, Nat.sub_zero, Nat.min_eq_left h]
theorem cut_from {xs : List V} {n : Nat} (h : n ≤ xs.length) : cutV xs (some (n : Int)) none = xs.drop n := by
  unfold cutV
  rw [HT.sIx_nat, Nat.min_eq_left h]
  show (xs.drop n).take (xs.length - n) = _
  rw [List.take_of_length_le (by rw [List.length_drop]; omega)]
theorem inV_strs {x : Str} {l : List Str} : inV (.str x) (l.map V.str) = true ↔ x ∈ l := by
  unfold inV
  rw [List.any_eq_true]
  constructor
  · rintro ⟨y, hy, e⟩
    obtain ⟨z, hz, rfl⟩ := List.mem_map.mp hy
    have e : decide (z = x) = true := e
    rw [← of_decide_eq_true e]
    exact hz
  · intro h
    exact ⟨.str x, List.mem_map.mpr ⟨x, h, rfl⟩, decide_eq_true (p := x = x) rfl⟩
abbrev s_law_swept : Stmt := topS 23
abbrev N_law_swept : List Str := ["_law_w", "_law_keep", "_law_spot", "_law_end_here", "_law_watch", "_law_names", "_law_k", "_law_key_so", "_law_worth"]
abbrev ps_law_swept : List Str := ["_law_w", "_law_keep", "_law_spot", "_law_end_here", "_law_watch"]
theorem sc_law_swept : FnScope N_law_swept ps_law_swept (defScope s_law_swept) := ⟨rfl, rfl, rfl, by decide +kernel, rfl, by decide +kernel, by decide +kernel⟩
def spMSwept : Sp := fun vs H Q _ => ∃ (A : Nat → Addr) (m : MS) (L : List (Int × Addr)) (cd : List Addr) (hs : List V) (s : LS) (t : Addr) (xs : List V) (keep spot u : Int), vs = [.ref (A 0), .int keep, .int spot, .int u, .ref t] ∧ MsAt H A m L cd hs ∧ Mt m s ∧ H t = some (.tup xs) ∧ Tps H xs (s.guards.map gdV) ∧ (∀ g ∈ s.guards, GdO g) ∧ s.guards.length ≤ 1000 ∧
  s.hold = keep ∧ s.time = spot ∧ s.ents.length ≤ 99 ∧ s.Ok 1000 ∧ 0 ≤ u ∧ u ≤ s.ents.length ∧ ∀ m' H', Gr (ownM A L) H H' → MsAt H' A m' L cd hs → Mt m' (s.sweep u) → Q .non H'
theorem has_mswept (D : Df K mg "_law_swept" s_law_swept ps_law_swept) (T : Txt mg) (G_law_leave : Has P w K mg base 2 "_law_leave" ps_law_leave spMLeave) : Has P w K mg base 3 "_law_swept" ps_law_swept spMSwept := Has.mk' D fun f fd F => by
  refine F.ok sc_law_swept (fun vs H Q E h => ?_) (fun cdv A' outer s' H vs Q E hr h => ?_)
  · obtain ⟨A, m, L, cd, hs, s, t, xs, keep, spot, u, rfl, _⟩ := h
    rfl
  · obtain ⟨A, m, L, cd, hs, s, t, xs, keep, spot, u, rfl, ma, mt, ht, tp, gO, gl, ek, et, e99, ok, u0, u1, q⟩ := h
    obtain ⟨u, rfl⟩ : ∃ n : Nat, u = (n : Int) := ⟨u.toNat, by omega⟩
    have ul : u ≤ s.ents.length := by omega
    refine ⟨_, (pss_cons (ps_setLc (i := 5) (own := [("_law_key_so", 7), ("_law_worth", 8)]) (g := (gTup K 2 (gCons (gName 7) (gCons (gName 8) gNil))))  rfl sc_law_swept.nd rfl rfl (sw_true rfl rfl rfl (by decide +kernel)) (pi_list (pe_slice (sl_listK (K := K)) (pe_dget (hu_of hr) (pv 0) pe_str (fun _ _ => rfl)) po_none (po_some (pv 3)))) (blkOk_by (own := [("_law_key_so", 7), ("_law_worth", 8)]) (N := N_law_swept) (sc := defScope s_law_swept) (by decide +kernel)) (fun _ _ _ _ _ => (pg_tupK (K := K) rfl (pgs_cons (pg_name (i := 7) sc_law_swept.nd rfl (Or.inl rfl)) (pgs_cons (pg_name (i := 8) sc_law_swept.nd rfl (Or.inl rfl)) pgs_nil)))) (fun _ _ _ _ _ => pts_nil) (fun _ _ _ _ _ => (pv 7)))
(pss_cons (ps_for PassesOwn.never rfl (pi_range1 (by rfl) T.m_range (pa_cons (pv 3) pa_nil)) (pg_name (i := 6) sc_law_swept.nd rfl (Or.inl rfl))
  (pss_cons (ps_if (pt_cmpR (op_in_seqK (K := K)) (pe_ix (ix_listK (K := K)) (pv 5) (pv 6) (fun _ _ => rfl)) (pe_slice (sl_listK (K := K)) (pv 5) (po_some (pe_op op_add (pv 6) pe_int)) po_none) (by rfl))
    (pss_one (ps_dput (hu_of hr) (pe_dget (hu_of hr) (pv 0) pe_str (fun _ _ => rfl)) (pv 6) pe_bl rfl))
    pss_nil)
  (pss_one (ps_expr (pe_dsetd (pe_dget (hu_of hr) (pv 0) pe_str (fun _ _ => rfl)) (pv 6) (pv 2) ⟨rfl, by rfl, by rfl, by rfl⟩)))))
(pss_one (ps_expr (pe_callH G_law_leave (hr.mono (by decide)) (by rfl) (pa_cons (pv 0) (pa_cons (pv 1) (pa_cons (pv 2) (pa_cons (pv 4) pa_nil))))))))), ?_⟩
    obtain ⟨rs, r1, r2⟩ := ma.f1
    have rl : rs.length = s.ents.length := by rw [r2.length, List.length_map, mt.r]
    walk_at "w"
    refine ⟨A 0, _, rfl, ma.d1, ?_⟩
    walk_at "w"
    refine ⟨A 1, rs, rfl, SqL.of r1, fun p np => ?_⟩
    rw [cut_to (by omega)]
    have g1 : Gr [] H (upd H p (.lst (rs.take u))) := Gr.new np
    have hp : (upd H p (.lst (rs.take u))) p = some (.lst (rs.take u)) := upd_same
    generalize (upd H p (.lst (rs.take u))) = H1 at *
    refine ⟨p, rfl, ⟨_, SqL.of hp⟩, ?_⟩
    have pl : (rs.take u).length = u := by rw [List.length_take]; omega
    refine lc_go (walk_list (K := K) (a := p) (xs := rs.take u)) (fun D j acc H' => Gr [] H1 H' ∧ acc = ((s.ents.take j).map (·.1)).map V.str) (fun D nD => ⟨Gr.new nD, rfl⟩) (fun D j acc H' _ ⟨g, _⟩ => SqL.of (g.k0 hp)) ?_ ?_
    · rintro D j _ x H4 H5 nD hj hD la ⟨g4, rfl⟩ ⟨rfl, ex⟩
      rw [pl] at hj
      have ex : (rs.take u)[j]? = some x := ex
      rw [List.getElem?_take_of_lt hj] at ex
      obtain ⟨y, f1, c, rfl, f2⟩ := pr_get r2 ex
      have he : s.ents[j]? = some (s.ents[j]'(by omega)) := List.getElem?_eq_getElem _
      have ey : y = rwV (s.ents[j]'(by omega)) := by
        rw [List.getElem?_map, mt.r, he] at f1
        exact (Option.some.inj f1).symm
      subst ey
      have hc := g4.tup _ _ (g1.tup _ _ f2)
      walk_at "w"
      refine ⟨rfl, ?_⟩
      walk_at "w"
      refine WK.w_ifP rfl ?_
      walk_at "w"
      refine lc_yes hD la (by omega) ⟨g4.own (Gr.mutL hD (by simp)) nD, ?_⟩
      rw [take_snoc he, List.map_append, List.map_append]
      rfl
    rintro N _ H2 nN hN la ⟨g2, rfl⟩
    rw [pl] at hN
    have g02 := g1.trans g2
    have ma2 := ma.k0 g02
    have nO : N ∉ ownM A L := (ma.k0 g1).live nN
    clear hp la
    walk_at "w"
    refine ⟨by omega, by omega, ?_⟩
    rw [Int.toNat_natCast]
    have xb : ∀ q : Nat, q < s.ents.length → 0 ≤ (q : Int) ∧ (q : Int) < (s.ents.length : Int) := fun q hq => ⟨by omega, by omega⟩
    refine lp_range (fun i σ' H' => ∃ y6 g' i', σ' = [some (.ref (A 0)), some (.int keep), some (.int spot), some (.int (u : Nat)), some (.ref t), some (.ref N), y6, none, none] ∧ Gr (ownM A L) H2 H' ∧ MsAt H' A { m with gone := g', since := i' } L cd hs ∧ H' N = some (.lst (((s.ents.take u).map (·.1)).map V.str)) ∧ (g'.map (·.1)).Nodup ∧ (∀ q ∈ g', 0 ≤ q.1 ∧ q.1 < (s.ents.length : Int)) ∧ (i'.map (·.1)).Nodup ∧ (∀ q ∈ i', 0 ≤ q.1 ∧ q.1 < (s.ents.length : Int)) ∧
        (∀ k : Nat, k < s.ents.length → ((getA g' (k : Int)).isSome = true ↔ (getA m.gone (k : Int)).isSome = true ∨ (k < i ∧ ∃ k', k < k' ∧ k' < u ∧ (enAt s.ents k').1 = (enAt s.ents k).1))) ∧
        ∀ k : Nat, k < s.ents.length → getA i' (k : Int) = if k < i ∧ s.since.getD k none = none then some spot else s.since.getD k none)
      ⟨none, m.gone, m.since, rfl, Gr.refl _ _, ma2, hN, mt.gn, mt.gb, mt.inn, mt.ib, fun k hk => ⟨.inl, fun h => h.elim id fun h => absurd h.1 (Nat.not_lt_zero _)⟩, fun k hk => by rw [if_neg (fun h => absurd h.1 (Nat.not_lt_zero _))]; exact mt.si k hk⟩ ?_ ?_
    · rintro i _ H3 hi ⟨y6, g', i', rfl, g3, ma3, hN3, gn, gb, inn, ib, gi, ii⟩
      have il : i < s.ents.length := by omega
      have names : ∀ k, k < u → (((s.ents.take u).map (·.1)).map V.str)[k]? = some (.str (enAt s.ents k).1) := fun k hk => by
        rw [List.getElem?_map, List.getElem?_map, List.getElem?_take_of_lt hk, List.getElem?_eq_getElem (show k < s.ents.length by omega)]
        unfold enAt
        rw [List.getD_eq_getElem?_getD, List.getElem?_eq_getElem (show k < s.ents.length by omega)]
        rfl
      have nl : (((s.ents.take u).map (·.1)).map V.str).length = u := by rw [List.length_map, List.length_map, List.length_take]; omega
      have gl2 : g'.length ≤ 99 := by
        have z := nodup_lt (n := s.ents.length) gn fun x hx => by
          obtain ⟨q, hq, rfl⟩ := List.mem_map.mp hx
          exact gb q hq
        rw [List.length_map] at z
        omega
      have il2 : i'.length ≤ 99 := by
        have z := nodup_lt (n := s.ents.length) inn fun x hx => by
          obtain ⟨q, hq, rfl⟩ := List.mem_map.mp hx
          exact ib q hq
        rw [List.length_map] at z
        omega
      have iff : (enAt s.ents i).1 ∈ ((s.ents.take u).map (·.1)).drop (i + 1) ↔ ∃ k', i < k' ∧ k' < u ∧ (enAt s.ents k').1 = (enAt s.ents i).1 := by
        rw [List.mem_iff_getElem?]
        constructor
        · rintro ⟨n, hn⟩
          rw [List.getElem?_drop, List.getElem?_map] at hn
          have kl : i + 1 + n < u := by
            by_cases c : i + 1 + n < u
            · exact c
            · rw [List.getElem?_eq_none (by rw [List.length_take]; omega)] at hn
              cases hn
          rw [List.getElem?_take_of_lt kl, List.getElem?_eq_getElem (show i + 1 + n < s.ents.length by omega)] at hn
          refine ⟨i + 1 + n, by omega, kl, ?_⟩
          unfold enAt at hn ⊢
          rw [List.getD_eq_getElem?_getD, List.getElem?_eq_getElem (show i + 1 + n < s.ents.length by omega)]
          exact Option.some.inj hn
        · rintro ⟨k', h1, h2, h3⟩
          refine ⟨k' - (i + 1), ?_⟩
          rw [List.getElem?_drop, List.getElem?_map, show i + 1 + (k' - (i + 1)) = k' from by omega, List.getElem?_take_of_lt h2, List.getElem?_eq_getElem (show k' < s.ents.length by omega), ← h3]
          unfold enAt
          rw [List.getD_eq_getElem?_getD, List.getElem?_eq_getElem (show k' < s.ents.length by omega)]
          rfl
      walk_at "w"
      refine WK.w_if ?_
      walk_at "w"
      rw [Int.zero_add]
      refine ⟨N, _, _, .str (enAt s.ents i).1, rfl, rfl, SqL.of hN3, WK.at_ofG (j := i) (by omega) (names i hi), ?_⟩
      walk_at "w"
      refine ⟨N, _, rfl, SqL.of hN3, fun p4 np4 => ?_⟩
      rw [show (i : Int) + 1 = ((i + 1 : Nat) : Int) from by omega, cut_from (by rw [nl]; omega), ← List.map_drop]
      have g4 : Gr [] H3 (upd H3 p4 (.lst ((((s.ents.take u).map (·.1)).drop (i + 1)).map V.str))) := Gr.new np4
      have hp4 : (upd H3 p4 (.lst ((((s.ents.take u).map (·.1)).drop (i + 1)).map V.str))) p4 = some (.lst ((((s.ents.take u).map (·.1)).drop (i + 1)).map V.str)) := upd_same
      generalize (upd H3 p4 (.lst ((((s.ents.take u).map (·.1)).drop (i + 1)).map V.str))) = H4 at *
      have ma4 := ma3.k0 g4
      have hN4 := g4.k0 hN3
      have g24 := g3.trans (g4.mono (by simp))
      refine ⟨p4, _, rfl, .inl (SqL.of hp4), rfl, by rw [List.all_map, List.all_eq_true]; exact fun _ _ => rfl, ?_⟩
      refine ⟨_, rfl, ?_⟩
      refine ite2 (fun hin => ?_) (fun hin => ?_)
      · have hin := iff.mp (inV_strs.mp hin)
        walk_at "w"
        refine ⟨A 0, _, rfl, ma4.d2, ?_⟩
        walk_at "w"
        refine ⟨A 2, _, rfl, gone_put ma4.f2 (show g'.length ≤ 1000 by omega) i true, ?_⟩
        obtain ⟨ma5, g5⟩ := ma4.setG (putA g' (i : Int) true)
        have hN5 := g5.keep _ _ nO hN4
        have g25 := g24.trans g5
        have gn5 : ((putA g' (i : Int) true).map (·.1)).Nodup := put_keys _ _ _ gn
        have gb5 : ∀ q ∈ putA g' (i : Int) true, 0 ≤ q.1 ∧ q.1 < (s.ents.length : Int) := fun q hq => by
          rcases putA_mem hq with z | z
          · rw [z]
            exact ⟨Int.natCast_nonneg i, show (i : Int) < _ by omega⟩
          · exact gb q z
        have gi5 : ∀ k : Nat, k < s.ents.length → ((getA (putA g' (i : Int) true) (k : Int)).isSome = true ↔ (getA m.gone (k : Int)).isSome = true ∨ (k < i + 1 ∧ ∃ k', k < k' ∧ k' < u ∧ (enAt s.ents k').1 = (enAt s.ents k).1)) := fun k hk => by
          rw [getA_put2]
          split
          · rename_i e
            obtain rfl : k = i := by omega
            exact ⟨fun _ => .inr ⟨by omega, hin⟩, fun _ => rfl⟩
          · rename_i e
            rw [gi k hk]
            refine or_congr Iff.rfl ⟨fun h => ⟨by omega, h.2⟩, fun h => ⟨?_, h.2⟩⟩
            have : k ≠ i := fun z => e (by rw [z])
            omega
        walk_at "w"
        refine w_dsetd ?_
        walk_at "w"
        refine ⟨A 0, _, rfl, ma5.d3, ?_⟩
        refine ⟨A 3, rfl, .inl ⟨_, .inl ma5.f3⟩, ?_⟩
        walk_at "w"
        have vv : valV (seatsV i') (.inl (i : Int)) = (getA i' (i : Int)).map V.int := get_map Sum.inl inl_inj V.int i' (i : Int)
        have ii0 : getA i' (i : Int) = s.since.getD i none := by rw [ii i il, if_neg (by omega)]
        have other : s.since.getD i none ≠ none → ∀ k : Nat, k < s.ents.length → getA i' (k : Int) = if k < i + 1 ∧ s.since.getD k none = none then some spot else s.since.getD k none := fun ne k hk => by
          rw [ii k hk]
          by_cases e : k = i
          · subst e
            rw [if_neg (by omega), if_neg (fun h => ne h.2)]
          · by_cases c : k < i ∧ s.since.getD k none = none
            · rw [if_pos c, if_pos ⟨by omega, c.2⟩]
            · rw [if_neg c, if_neg (fun h => c ⟨by omega, h.2⟩)]
        refine ⟨seatsV i', .inl (i : Int), ma5.f3, rfl, WK.sz' (by unfold seatsV; rw [List.length_map]; omega), fun v hv => ?_, fun hn => ?_⟩
        · refine ⟨_, _, i', rfl, g25, ma5, hN5, gn5, gb5, inn, ib, gi5, other ?_⟩
          intro h
          rw [vv, ii0, h] at hv
          cases hv
        · have sn : s.since.getD i none = none := by
            rw [vv, ii0] at hn
            simpa using hn
          rw [show putK (seatsV i') (.inl (i : Int)) (.int spot) = seatsV (putA i' (i : Int) spot) from put_map Sum.inl inl_inj V.int i' (i : Int) spot]
          obtain ⟨ma6, g6⟩ := ma5.setI (putA i' (i : Int) spot)
          have hN6 := g6.keep _ _ nO hN5
          refine ⟨_, _, _, rfl, g25.trans g6, ma6, hN6, gn5, gb5, put_keys _ _ _ inn, fun q hq => ?_, gi5, fun k hk => ?_⟩
          · rcases putA_mem hq with z | z
            · rw [z]
              exact ⟨Int.natCast_nonneg i, show (i : Int) < _ by omega⟩
            · exact ib q z
          · rw [getA_put2]
            by_cases e : k = i
            · subst e
              rw [if_pos rfl, if_pos ⟨by omega, sn⟩]
            · rw [if_neg (by omega), ii k hk]
              by_cases c : k < i ∧ s.since.getD k none = none
              · rw [if_pos c, if_pos ⟨by omega, c.2⟩]
              · rw [if_neg c, if_neg (fun h => c ⟨by omega, h.2⟩)]
      · have hin : ¬ ∃ k', i < k' ∧ k' < u ∧ (enAt s.ents k').1 = (enAt s.ents i).1 := fun h => hin (inV_strs.mpr (iff.mpr h))
        walk_at "w"
        have ma5 := ma4
        have hN5 := hN4
        have g25 := g24
        have gn5 := gn
        have gb5 := gb
        have gi5 : ∀ k : Nat, k < s.ents.length → ((getA g' (k : Int)).isSome = true ↔ (getA m.gone (k : Int)).isSome = true ∨ (k < i + 1 ∧ ∃ k', k < k' ∧ k' < u ∧ (enAt s.ents k').1 = (enAt s.ents k).1)) := fun k hk => by
          rw [gi k hk]
          refine or_congr Iff.rfl ⟨fun h => ⟨by omega, h.2⟩, fun h => ⟨?_, h.2⟩⟩
          by_cases e : k = i
          · rw [e] at h
            exact absurd h.2 hin
          · omega
        walk_at "w"
        refine w_dsetd ?_
        walk_at "w"
        refine ⟨A 0, _, rfl, ma5.d3, ?_⟩
        refine ⟨A 3, rfl, .inl ⟨_, .inl ma5.f3⟩, ?_⟩
        walk_at "w"
        have vv : valV (seatsV i') (.inl (i : Int)) = (getA i' (i : Int)).map V.int := get_map Sum.inl inl_inj V.int i' (i : Int)
        have ii0 : getA i' (i : Int) = s.since.getD i none := by rw [ii i il, if_neg (by omega)]
        have other : s.since.getD i none ≠ none → ∀ k : Nat, k < s.ents.length → getA i' (k : Int) = if k < i + 1 ∧ s.since.getD k none = none then some spot else s.since.getD k none := fun ne k hk => by
          rw [ii k hk]
          by_cases e : k = i
          · subst e
            rw [if_neg (by omega), if_neg (fun h => ne h.2)]
          · by_cases c : k < i ∧ s.since.getD k none = none
            · rw [if_pos c, if_pos ⟨by omega, c.2⟩]
            · rw [if_neg c, if_neg (fun h => c ⟨by omega, h.2⟩)]
        refine ⟨seatsV i', .inl (i : Int), ma5.f3, rfl, WK.sz' (by unfold seatsV; rw [List.length_map]; omega), fun v hv => ?_, fun hn => ?_⟩
        · refine ⟨_, _, i', rfl, g25, ma5, hN5, gn5, gb5, inn, ib, gi5, other ?_⟩
          intro h
          rw [vv, ii0, h] at hv
          cases hv
        · have sn : s.since.getD i none = none := by
            rw [vv, ii0] at hn
            simpa using hn
          rw [show putK (seatsV i') (.inl (i : Int)) (.int spot) = seatsV (putA i' (i : Int) spot) from put_map Sum.inl inl_inj V.int i' (i : Int) spot]
          obtain ⟨ma6, g6⟩ := ma5.setI (putA i' (i : Int) spot)
          have hN6 := g6.keep _ _ nO hN5
          refine ⟨_, _, _, rfl, g25.trans g6, ma6, hN6, gn5, gb5, put_keys _ _ _ inn, fun q hq => ?_, gi5, fun k hk => ?_⟩
          · rcases putA_mem hq with z | z
            · rw [z]
              exact ⟨Int.natCast_nonneg i, show (i : Int) < _ by omega⟩
            · exact ib q z
          · rw [getA_put2]
            by_cases e : k = i
            · subst e
              rw [if_pos rfl, if_pos ⟨by omega, sn⟩]
            · rw [if_neg (by omega), ii k hk]
              by_cases c : k < i ∧ s.since.getD k none = none
              · rw [if_pos c, if_pos ⟨by omega, c.2⟩]
              · rw [if_neg c, if_neg (fun h => c ⟨by omega, h.2⟩)]
    · rintro _ H3 ⟨y6, g', i', rfl, g3, ma3, hN3, gn, gb, inn, ib, gi, ii⟩
      obtain ⟨l1, l2, _, k2, k3⟩ := swept_at ok.eg ok.es ul u (Nat.le_refl _)
      rw [Nat.sub_self] at k2 k3
      have mt3 : Mt { m with gone := g', since := i' } { s with gone := (s.swept u u).gone, since := (s.swept u u).since } := by
        refine ⟨mt.r, fun k hk => ?_, gn, gb, fun k hk => ?_, inn, ib, mt.se, mt.tk, mt.t, mt.cl, mt.c⟩
        · have hk : k < s.ents.length := hk
          show (getA g' (k : Int)).isSome = (s.swept u u).gone.getD k true
          rw [Bool.eq_iff_iff, gi k hk, k2 k, mt.g k hk]
          refine or_congr Iff.rfl ⟨?_, ?_⟩
          · rintro ⟨_, k', h1, h2, h3⟩
            exact ⟨Nat.zero_le _, k', h1, h2, h3⟩
          · rintro ⟨_, k', h1, h2, h3⟩
            exact ⟨by omega, k', h1, h2, h3⟩
        · have hk : k < s.ents.length := hk
          show getA i' (k : Int) = (s.swept u u).since.getD k none
          rw [ii k hk, k3 k, ← et]
          by_cases c : k < u ∧ s.since.getD k none = none
          · rw [if_pos c, if_pos ⟨Nat.zero_le _, c⟩]
          · rw [if_neg c, if_neg (fun h => c h.2)]
      have gH := (g02.mono (M' := ownM A L) (by simp)).trans g3
      walk_at "w"
      refine ⟨A, _, L, cd, hs, _, t, xs, keep, spot, rfl, ma3, mt3, gH.tup _ _ ht, tp.gr gH, gO, gl, ek, et, e99, ok.swept u u, fun m' H4 g4 ma4 mt4 => ?_⟩
      refine q m' H4 (gH.trans g4) ma4 ?_
      have e : s.sweep (u : Int) = ({ s with gone := (s.swept u u).gone, since := (s.swept u u).since } : LS).marks := by
        unfold LS.sweep
        rw [Int.toNat_natCast]
      rw [e]
      exact mt4

end
end PK
namespace PK
open PySem L2
section
variable {P : Program} {w : World} {K : PySem.W.Frag} {mg : Str → Option Value} {base : Heap}
/-- the row at k, in the machine's list -/
theorem MsAt.row {H : Hp} {A : Nat → Addr} {m : MS} {L : List (Int × Addr)} {cd : List Addr} {hs : List V} {s : LS} (h : MsAt H A m L cd hs) (e : m.rows = s.ents) {k : Nat} (hk : k < s.ents.length) : ∃ rs c, H (A 1) = some (.lst rs) ∧ rs[k]? = some (.ref c) ∧ H c = some (.tup (rwV (enAt s.ents k))) := by
  obtain ⟨rs, r1, r2⟩ := h.f1
  have hr : (m.rows.map rwV)[k]? = some (rwV (enAt s.ents k)) := by
    rw [List.getElem?_map, e, List.getElem?_eq_getElem hk]
    unfold enAt
    rw [List.getD_eq_getElem?_getD, List.getElem?_eq_getElem hk]
    rfl
  obtain ⟨x, hx, c, rfl, hc⟩ := pr_get' r2 hr
  exact ⟨rs, c, r1, hx, hc⟩
theorem MsAt.tget {H : Hp} {A : Nat → Addr} {m : MS} {L : List (Int × Addr)} {cd : List Addr} {hs : List V} (h : MsAt H A m L cd hs) {r : Int} {tb : List (Str × Int)} (e : getA m.tabs r = some tb) : ∃ a, (r, a) ∈ L ∧ H a = some (.dK (tabV tb)) ∧ DGet H (A 5) (.int r) (some (.ref a)) := by
  obtain ⟨a, ga, ha⟩ := td_get h.td e
  have z := tabs_get h.f5 r
  rw [ga] at z
  exact ⟨a, getA_in ga, ha, z⟩
theorem here_far {s : LS} {z u : Int} : ∀ {n : Nat}, u ≤ (n : Int) → ∀ d, (s.here (n + d)).filter (inR z u) = (s.here n).filter (inR z u)
  | _, _, 0 => rfl
  | n, h, d + 1 => by
    show (s.here (n + d + 1)).filter (inR z u) = _
    rw [here_succ, List.filter_append, here_far h d]
    have e : inR z u (n + d) = false := by
      unfold inR
      rw [Bool.and_eq_false_iff]
      exact .inr (decide_eq_false (by omega))
    have e2 : (if s.gone.getD (n + d) true = true then ([] : List Nat) else [n + d]).filter (inR z u) = [] := by
      split
      · rfl
      · rw [List.filter_cons, e]
        rfl
    rw [e2, List.append_nil]
theorem here_none {s : LS} {u : Int} : ∀ {n : Nat}, (s.here n).filter (inR n u) = [] := fun {n} => by
  rw [List.filter_eq_nil_iff]
  intro i hi
  have hi : i < n := List.mem_range.mp (List.mem_filter.mp hi).1
  unfold inR
  rw [Bool.and_eq_true]
  rintro ⟨h, _⟩
  have := of_decide_eq_true h
  omega
abbrev s_law_heard : Stmt := topS 24
abbrev N_law_heard : List Str := ["_law_w", "_law_p", "_law_upto_so", "_law_found", "_law_k"]
abbrev ps_law_heard : List Str := ["_law_w", "_law_p", "_law_upto_so"]
theorem sc_law_heard : FnScope N_law_heard ps_law_heard (defScope s_law_heard) := ⟨rfl, rfl, rfl, by decide +kernel, rfl, by decide +kernel, by decide +kernel⟩
def LS.ks (s : LS) (z u : Int) (i : Nat) : List Nat := (s.here (z.toNat + i)).filter (inR z u)
theorem ks_succ {s : LS} {z u : Int} {i : Nat} (z0 : 0 ≤ z) (hi : z + i < u) : s.ks z u (i + 1) = s.ks z u i ++ (if s.gone.getD (z.toNat + i) true = true then [] else [z.toNat + i]) := by
  unfold LS.ks
  show (s.here (z.toNat + i + 1)).filter _ = _
  rw [here_succ, List.filter_append]
  congr 1
  split
  · rfl
  · rw [List.filter_cons, if_pos (by unfold inR; rw [Bool.and_eq_true]; exact ⟨decide_eq_true (by omega), decide_eq_true (by omega)⟩)]
    rfl
theorem ks_zero {s : LS} {z u : Int} (z0 : 0 ≤ z) : s.ks z u 0 = [] := by
  have h := here_none (s := s) (u := u) (n := z.toNat)
  rw [Int.toNat_of_nonneg z0] at h
  exact h
theorem ks_all {s : LS} {z u : Int} (z0 : 0 ≤ z) (zu : z < u) (ul : u ≤ s.ents.length) : s.ks z u (u - z).toNat = s.there.filter (inR z u) := by
  unfold LS.ks LS.there
  have e : z.toNat + (u - z).toNat = u.toNat := by omega
  rw [e]
  have f := here_far (s := s) (z := z) (u := u) (n := u.toNat) (by omega) (s.ents.length - u.toNat)
  rw [show u.toNat + (s.ents.length - u.toNat) = s.ents.length from by omega] at f
  exact f.symm
theorem ks_len {s : LS} {z u : Int} {i : Nat} : (s.ks z u i).length ≤ z.toNat + i := by
  unfold LS.ks LS.here
  refine Nat.le_trans (List.length_filter_le _ _) (Nat.le_trans (List.length_filter_le _ _) ?_)
  rw [List.length_range]
  exact Nat.le_refl _
theorem held_len : ∀ (l : List (Str × Option Int)) (tb : List (Str × Int)), (l.foldl heldStep tb).length ≤ tb.length + l.length
  | [], _ => Nat.le_refl _
  | e :: l, tb => by
    have h := held_len l (heldStep tb e)
    have d : (delA tb e.1).length ≤ tb.length := List.length_filter_le _ _
    have h2 : (heldStep tb e).length ≤ tb.length + 1 := by
      unfold heldStep
      split
      · have := putA_len (delA tb e.1) e.1 ‹Int›
        omega
      · omega
    rw [List.foldl_cons, List.length_cons]
    omega
def spMHeard : Sp := fun vs H Q _ => ∃ (A : Nat → Addr) (m : MS) (L : List (Int × Addr)) (cd : List Addr) (hs : List V) (s : LS) (n : Nat) (r u z : Int) (tb' : List (Str × Int)), vs = [.ref (A 0), .int r, .int u] ∧ MsAt H A m L cd hs ∧ Mt m s ∧ s.Ok n ∧ n ≤ 200 ∧ s.ents.length ≤ 99 ∧ getA s.seats r = some z ∧ getA s.tabs r = some tb' ∧ z < u ∧ u ≤ s.ents.length ∧
  ∀ l xs m' H', Gr (ownM A L) H H' → MsAt H' A m' L cd hs → H l = none → H' l = some (.lst xs) → Tps H' xs ((s.told r u).map s.row) → (∀ t : Int, Mt m' { s with time := t, tabs := putA s.tabs r (s.reads r u (s.told r u)), seats := putA s.seats r u }) → Q (.ref l) H'
theorem has_mheard (D : Df K mg "_law_heard" s_law_heard ps_law_heard) (T : Txt mg) : Has P w K mg base 1 "_law_heard" ps_law_heard spMHeard := Has.mk' D fun f fd F => by
  refine F.ok sc_law_heard (fun vs H Q E h => ?_) (fun cdv A' outer s' H vs Q E hr h => ?_)
  · obtain ⟨A, m, L, cd, hs, s, n, r, u, z, tb', rfl, _⟩ := h
    rfl
  · obtain ⟨A, m, L, cd, hs, s, n, r, u, z, tb', rfl, ma, mt, ok, n200, e99, hz, htb, zu, ul, q⟩ := h
    refine ⟨_, (pss_cons (ps_set (i := 3) sc_law_heard.nd rfl (Or.inl rfl) (pe_lst pa_nil))
(pss_cons (ps_for PassesOwn.never rfl (pi_range2 (by rfl) T.m_range (pa_cons (pe_dget (hu_of hr) (pe_dget (hu_of hr) (pv 0) pe_str (fun _ _ => rfl)) (pv 1) (fun _ _ => rfl)) (pa_cons (pv 2) pa_nil))) (pg_name (i := 4) sc_law_heard.nd rfl (Or.inl rfl))
  (pss_one (ps_if (pt_cmp (pc_dnotin (hu_of hr) (pv 4) (pe_dget (hu_of hr) (pv 0) pe_str (fun _ _ => rfl))))
    (pss_cons (ps_expr (pe_bm PySem.F.plainAttrs_list PySem.F.slot_list_append PySem.F.type_list_append mt_append (pv 3) (pa_cons (pe_op (op_catAK (K := K)) (pe_tup (pa_cons (pv 4) pa_nil)) (pe_ix (ix_listK (K := K)) (pe_dget (hu_of hr) (pv 0) pe_str (fun _ _ => rfl)) (pv 4) (fun _ _ => rfl))) pa_nil)))
    (pss_cons (ps_expr (pe_dpop2 (pe_dget (hu_of hr) (pe_dget (hu_of hr) (pv 0) pe_str (fun _ _ => rfl)) (pv 1) (fun _ _ => rfl)) (pe_ix (ix_tupK (K := K)) (pe_ix (ix_listK (K := K)) (pe_dget (hu_of hr) (pv 0) pe_str (fun _ _ => rfl)) (pv 4) (fun _ _ => rfl)) pe_int (fun _ _ => rfl)) pe_non ⟨rfl, by rfl, by rfl, by rfl⟩))
    (pss_one (ps_if (pt_cmpR op_notN (pe_ix (ix_tupK (K := K)) (pe_ix (ix_listK (K := K)) (pe_dget (hu_of hr) (pv 0) pe_str (fun _ _ => rfl)) (pv 4) (fun _ _ => rfl)) pe_int (fun _ _ => rfl)) pe_non (nomark _))
      (pss_one (ps_dput (hu_of hr) (pe_dget (hu_of hr) (pe_dget (hu_of hr) (pv 0) pe_str (fun _ _ => rfl)) (pv 1) (fun _ _ => rfl)) (pe_ix (ix_tupK (K := K)) (pe_ix (ix_listK (K := K)) (pe_dget (hu_of hr) (pv 0) pe_str (fun _ _ => rfl)) (pv 4) (fun _ _ => rfl)) pe_int (fun _ _ => rfl)) (pe_ix (ix_tupK (K := K)) (pe_ix (ix_listK (K := K)) (pe_dget (hu_of hr) (pv 0) pe_str (fun _ _ => rfl)) (pv 4) (fun _ _ => rfl)) pe_int (fun _ _ => rfl)) rfl))
      pss_nil))))
    pss_nil)))
(pss_cons (ps_dput (hu_of hr) (pe_dget (hu_of hr) (pv 0) pe_str (fun _ _ => rfl)) (pv 1) (pv 2) rfl)
(pss_one (ps_ret (pv 3)))))), ?_⟩
    obtain ⟨tb, gtb, sam, nd1, nd2⟩ := mt.tab htb
    have z0 : 0 ≤ z := (ok.s0 _ (getA_in hz)).1
    have tbl : tb.length ≤ 40000 := by
      have h1 := (sameA_perm nd1 nd2 sam).length_eq
      have h2 := ok.tw _ (getA_in htb)
      have h3 : n * n ≤ 200 * 200 := Nat.mul_le_mul n200 n200
      dsimp only at h2
      omega
    have kn : (m.tabs.map (·.1)).Nodup := by rw [← td_keys ma.td]; exact ma.kn
    walk_at "w"
    refine ⟨WK.sz, fun F nF => ?_⟩
    have g1 : Gr [] H (upd H F (.lst [])) := Gr.new nF
    have hF : (upd H F (.lst [])) F = some (.lst []) := upd_same
    have ma1 := ma.k0 g1
    have FO := ma.live nF
    have FC := ma.livecd nF
    generalize (upd H F (.lst [])) = H1 at *
    walk_at "w"
    refine w_rng2 ?_
    walk_at "w"
    refine ⟨A 0, _, rfl, ma1.d4, ?_⟩
    walk_at "w"
    have sg := seats_get ma1.f4 r
    rw [mt.se, hz] at sg
    refine ⟨A 4, .int z, rfl, sg, ?_⟩
    walk_at "w"
    have ml := ok.en
    refine ⟨by omega, ?_⟩
    refine lp_range (fun i σ' H' => ∃ y4 acc, σ' = [some (.ref (A 0)), some (.int r), some (.int u), some (.ref F), y4] ∧ Gr (F :: ownM A L) H1 H' ∧ MsAt H' A { m with tabs := putA m.tabs r (((s.ks z u i).map s.ent).foldl heldStep tb) } L cd hs ∧ H' F = some (.lst acc) ∧ Tps H' acc ((s.ks z u i).map s.row))
      ⟨none, [], rfl, Gr.refl _ _, by rw [ks_zero z0, List.map_nil, List.foldl_nil, put_get kn gtb]; exact ma1, hF, by rw [ks_zero z0]; exact .nil⟩ ?_ ?_
    · rintro i _ H2 hi ⟨y4, acc, rfl, g2, ma2, hF2, tp2⟩
      have zi : z + i < u := by omega
      have ksu := ks_succ (s := s) (u := u) z0 zi
      have kl : z.toNat + i < s.ents.length := by omega
      have ek : z + (i : Int) = ((z.toNat + i : Nat) : Int) := by omega
      have ggn := gone_get ma2.f2 (((z.toNat + i : Nat) : Int))
      have ggn : DGet H2 (A 2) (.int ((z.toNat + i : Nat) : Int)) ((getA m.gone ((z.toNat + i : Nat) : Int)).map V.bl) := ggn
      have mg' := mt.g (z.toNat + i) kl
      rw [ek]
      have kll := ks_len (s := s) (z := z) (u := u) (i := i)
      have accl : acc.length ≤ 200 := by rw [tp2.length, List.length_map]; omega
      generalize z.toNat + i = k at *
      walk_at "w"
      refine WK.w_if ?_
      walk_at "w"
      refine ⟨A 0, _, rfl, ma2.d2, ?_⟩
      refine ⟨A 2, _, rfl, ggn, ?_⟩
      refine ⟨_, rfl, ?_⟩
      cases hgk : getA m.gone ((k : Nat) : Int) with
      | some b0 =>
        rw [hgk] at mg'
        have e : s.ks z u (i + 1) = s.ks z u i := by rw [ksu, if_pos (by rw [← mg']; rfl), List.append_nil]
        refine WK.w_ifN (by simp) ?_
        walk_at "w"
        rw [e]
        exact ⟨_, acc, rfl, g2, ma2, hF2, tp2⟩
      | none =>
        rw [hgk] at mg'
        have e : s.ks z u (i + 1) = s.ks z u i ++ [k] := by rw [ksu, if_neg (by rw [← mg']; decide)]
        rw [e, List.map_append, List.map_append, List.foldl_append]
        obtain ⟨rs2, c, r1, r2, r3⟩ := ma2.row mt.r kl
        have tl : (((s.ks z u i).map s.ent).foldl heldStep tb).length ≤ 40200 := by
          have z := held_len ((s.ks z u i).map s.ent) tb
          rw [List.length_map] at z
          omega
        have gt2 : getA (putA m.tabs r (((s.ks z u i).map s.ent).foldl heldStep tb)) r = some (((s.ks z u i).map s.ent).foldl heldStep tb) := getA_put _ _ _
        generalize ((s.ks z u i).map s.ent).foldl heldStep tb = tk at *
        have ent : s.ent k = enAt s.ents k := rfl
        refine WK.w_ifP (by simp) ?_
        walk_at "w"
        refine WK.w_tyL hF2 ?_
        walk_at "w"
        refine ⟨WK.sz, fun p3 n3 => ?_⟩
        have g3 : Gr [] H2 (upd H2 p3 (.tup [.int (k : Nat)])) := Gr.new n3
        have h3 : (upd H2 p3 (.tup [.int (k : Nat)])) p3 = some (.tup [.int (k : Nat)]) := upd_same
        have ma3 := ma2.k0 g3
        have hF3 := g3.k0 hF2
        have r13 := g3.k0 r1
        have r33 := g3.tup _ _ r3
        have tp3 := tp2.gr g3
        generalize (upd H2 p3 (.tup [.int (k : Nat)])) = H3 at *
        walk_at "w"
        refine ⟨A 0, _, rfl, ma3.d1, ?_⟩
        walk_at "w"
        refine ⟨A 1, rs2, _, .ref c, rfl, rfl, SqL.of r13, WK.at_ofG (j := k) (by omega) r2, ?_⟩
        refine ⟨p3, c, _, _, rfl, rfl, SqT.of h3, SqT.of r33, WK.sz, (fun h => by cases h), (fun _ h => by cases h), fun _ _ p4 n4 => ?_⟩
        have g4 : Gr [] H3 (upd H3 p4 (.tup ([.int (k : Nat)] ++ rwV (enAt s.ents k)))) := Gr.new n4
        have h4 : (upd H3 p4 (.tup ([.int (k : Nat)] ++ rwV (enAt s.ents k)))) p4 = some (.tup (s.row k)) := upd_same
        have ma4 := ma3.k0 g4
        have hF4 := g4.k0 hF3
        have r14 := g4.k0 r13
        have r34 := g4.tup _ _ r33
        have tp4 := tp3.gr g4
        generalize (upd H3 p4 (.tup ([.int (k : Nat)] ++ rwV (enAt s.ents k)))) = H4 at *
        walk_at "w"
        refine ⟨F, acc, _, rfl, rfl, hF4, WK.sz' (by omega), ?_⟩
        have g5 : Gr [F] H4 (upd H4 F (.lst (acc ++ [.ref p4]))) := Gr.mutL hF4 (by simp)
        have hF5 : (upd H4 F (.lst (acc ++ [.ref p4]))) F = some (.lst (acc ++ [.ref p4])) := upd_same
        have FO' : ∀ x ∈ ownM A L, x ∉ [F] := fun x hx h => FO (by rw [← List.mem_singleton.mp h]; exact hx)
        have ma5 := ma4.keep g5 (fun i hi => FO' _ (ownM_cell hi)) (fun q hq => FO' _ (List.mem_append_right _ (List.mem_map.mpr ⟨q, hq, rfl⟩))) (fun d hd h => FC (by rw [← List.mem_singleton.mp h]; exact hd))
        have g25 := ((g2.trans (g3.mono (by simp))).trans (g4.mono (by simp))).trans (g5.mono (M' := F :: ownM A L) (by simp))
        have r15 := g5.k1 r14 (fun h => FO (by rw [← h]; exact ownM_cell (by decide)))
        have r35 := g5.tup _ _ r34
        have tp5 := tp4.gr g5
        have tpn : Tps (upd H4 F (.lst (acc ++ [.ref p4]))) (acc ++ [.ref p4]) ((s.ks z u i).map s.row ++ [s.row k]) := pr_append tp5 (.cons ⟨p4, rfl, g5.tup _ _ h4⟩ .nil)
        generalize (upd H4 F (.lst (acc ++ [.ref p4]))) = H5 at *
        obtain ⟨ta, tm, th5, tg5⟩ := ma5.tget gt2
        walk_at "w"
        refine WK.w_gen (fun _ H' => Gr (ownM A L) H5 H' ∧ MsAt H' A { m with tabs := putA m.tabs r (delA tk (enAt s.ents k).1) } L cd hs) ?_ (fun Q0 q0 => ?_)
        rotate_left
        · refine w_dpop2 ?_
          walk_at "w"
          refine ⟨A 0, _, rfl, ma5.d5, ?_⟩
          walk_at "w"
          refine ⟨A 5, .ref ta, rfl, tg5, ?_⟩
          walk_at "w"
          refine ⟨.inl ⟨_, .inl th5⟩, ?_⟩
          walk_at "w"
          refine ⟨A 0, _, rfl, ma5.d1, ?_⟩
          walk_at "w"
          refine ⟨A 1, rs2, _, .ref c, rfl, rfl, SqL.of r15, WK.at_ofG (j := k) (by omega) r2, ?_⟩
          walk_at "w"
          refine ⟨tabV tk, .inr (enAt s.ents k).1, th5, rfl, fun v hv => ?_, fun hn => ?_⟩
          · rw [show dropK (tabV tk) (.inr (enAt s.ents k).1) = tabV (delA tk (enAt s.ents k).1) from del_map Sum.inr inr_inj V.int tk _]
            obtain ⟨ma6, g6⟩ := ma5.setTab tm (delA tk (enAt s.ents k).1)
            dsimp only at ma6
            rw [put_put] at ma6
            exact q0 _ _ ⟨g6, ma6⟩
          · have e2 : getA tk (enAt s.ents k).1 = none := by
              have z : (getA tk (enAt s.ents k).1).map V.int = none := (get_map Sum.inr inr_inj V.int tk _).symm.trans hn
              simpa using z
            refine q0 _ _ ⟨Gr.refl _ _, ?_⟩
            rw [show delA tk (enAt s.ents k).1 = tk from del_none e2]
            exact ma5
        · rintro _ H6 ⟨g6, ma6⟩
          have hF6 := g6.keep _ _ FO hF5
          have tpn6 := tpn.gr g6
          have g26 := g25.trans (g6.mono (M' := F :: ownM A L) (fun x hx => List.mem_cons_of_mem _ hx))
          obtain ⟨rs6, c6, s1, s2, s3⟩ := ma6.row mt.r kl
          have gt6 : getA (putA m.tabs r (delA tk (enAt s.ents k).1)) r = some (delA tk (enAt s.ents k).1) := getA_put _ _ _
          obtain ⟨ta6, tm6, th6, tg6⟩ := ma6.tget gt6
          have dl : (delA tk (enAt s.ents k).1).length ≤ tk.length := List.length_filter_le _ _
          walk_at "w"
          refine WK.w_if ?_
          walk_at "w"
          refine ⟨A 0, _, rfl, ma6.d1, ?_⟩
          walk_at "w"
          refine ⟨A 1, rs6, _, .ref c6, rfl, rfl, SqL.of s1, WK.at_ofG (j := k) (by omega) s2, ?_⟩
          walk_at "w"
          cases eo : (enAt s.ents k).2 with
          | none =>
            have hst : List.foldl heldStep tk (List.map s.ent [k]) = delA tk (enAt s.ents k).1 := by
              show heldStep tk (enAt s.ents k) = _
              unfold heldStep
              rw [eo]
            refine WK.w_ifN (by simp [optV]) ?_
            walk_at "w"
            rw [hst]
            exact ⟨_, _, rfl, g26, ma6, hF6, tpn6⟩
          | some w =>
            have hst : List.foldl heldStep tk (List.map s.ent [k]) = putA (delA tk (enAt s.ents k).1) (enAt s.ents k).1 w := by
              show heldStep tk (enAt s.ents k) = _
              unfold heldStep
              rw [eo]
            have s3 : H6 c6 = some (.tup [.str (enAt s.ents k).1, .int w]) := by
              have z := s3
              unfold rwV at z
              rw [eo] at z
              exact z
            refine WK.w_ifP (by simp [optV]) ?_
            walk_at "w"
            refine ⟨A 0, _, rfl, ma6.d1, ?_⟩
            walk_at "w"
            refine ⟨A 1, rs6, _, .ref c6, rfl, rfl, SqL.of s1, WK.at_ofG (j := k) (by omega) s2, ?_⟩
            walk_at "w"
            refine ⟨A 0, _, rfl, ma6.d5, ?_⟩
            walk_at "w"
            refine ⟨A 5, .ref ta6, rfl, tg6, ?_⟩
            walk_at "w"
            refine ⟨A 0, _, rfl, ma6.d1, ?_⟩
            walk_at "w"
            refine ⟨A 1, rs6, _, .ref c6, rfl, rfl, SqL.of s1, WK.at_ofG (j := k) (by omega) s2, ?_⟩
            walk_at "w"
            refine ⟨ta6, _, rfl, tab_put th6 (by omega) (enAt s.ents k).1 w, ?_⟩
            obtain ⟨ma7, g7⟩ := ma6.setTab tm6 (putA (delA tk (enAt s.ents k).1) (enAt s.ents k).1 w)
            dsimp only at ma7
            rw [put_put] at ma7
            rw [hst]
            exact ⟨_, _, rfl, g26.trans (g7.mono (fun x hx => List.mem_cons_of_mem _ hx)), ma7, g7.keep _ _ FO hF6, tpn6.gr g7⟩
    · rintro _ H2 ⟨y4, acc, rfl, g2, ma2, hF2, tp2⟩
      have eall := ks_all (s := s) z0 zu ul
      rw [eall] at ma2 tp2
      have etold : s.told r u = s.there.filter (inR z u) := by
        unfold LS.told LS.got
        rw [hz]
        rfl
      rw [← etold] at ma2 tp2
      obtain ⟨sam2, ndk⟩ := sam.steps (l := (s.told r u).map s.ent) nd1
      have ereads : s.reads r u (s.told r u) = ((s.told r u).map s.ent).foldl tabStep tb' := by
        unfold LS.reads
        rw [htb]
        rfl
      have sll := ok.sl
      walk_at "w"
      refine ⟨A 0, _, rfl, ma2.d4, ?_⟩
      walk_at "w"
      refine ⟨A 4, _, rfl, seats_put ma2.f4 (by rw [show ({ m with tabs := putA m.tabs r (((s.told r u).map s.ent).foldl heldStep tb) } : MS).seats = s.seats from mt.se]; omega) r u, ?_⟩
      obtain ⟨ma3, g3⟩ := ma2.setS (putA m.seats r u)
      have nd2' : NdK (s.reads r u (s.told r u)) := by rw [ereads]; exact steps_nd nd2
      have g02 : Gr (ownM A L) H H2 := by
        refine Gr.own (p := F) (g1.mono (M' := ownM A L) (by simp)) g2 nF
      walk_at "w"
      refine q F acc _ _ (g02.trans g3) ma3 nF (g3.keep _ _ FO hF2) (tp2.gr g3) fun t => ?_
      exact (mt.seat (r := r) (z := u) t (by rw [ereads]; exact sam2) ndk nd2')

end
end PK
namespace PK
open PySem L2
section
variable {P : Program} {w : World} {K : PySem.W.Frag} {mg : Str → Option Value} {base : Heap}
abbrev s_law_did : Stmt := topS 25
abbrev N_law_did : List Str := ["_law_w", "_law_event_so", "_law_word", "_law_own"]
abbrev ps_law_did : List Str := ["_law_w", "_law_event_so"]
theorem sc_law_did : FnScope N_law_did ps_law_did (defScope s_law_did) := ⟨rfl, rfl, rfl, by decide +kernel, rfl, by decide +kernel, by decide +kernel⟩
/-- what the machine tells of an event -/
def DidV (H : Hp) (s : LS) : Ev → V → Prop
  | .put _ _, v => v = .int (s.ents.length : Nat)
  | .drop _, v => v = .int (s.ents.length : Nat)
  | .save _, v => v = .int (s.copies.length : Nat)
  | .read r u, v => ∃ l xs, v = .ref l ∧ H l = some (.lst xs) ∧ Tps H xs ((s.told r u).map s.row)
  | _, v => v = .non
def spMDid : Sp := fun vs H Q _ => ∃ (A : Nat → Addr) (m : MS) (L : List (Int × Addr)) (cd : List Addr) (hs : List V) (s : LS) (n : Nat) (b : Addr) (e : Ev), vs = [.ref (A 0), .ref b] ∧ MsAt H A m L cd hs ∧ Mt m s ∧ s.Ok n ∧ n ≤ 200 ∧ s.ents.length ≤ 98 ∧ H b = some (.tup e.vs) ∧ s.fits e ∧
  ∀ v m' L' cd' H', Gr (ownM A L) H H' → (∀ x ∈ ownM A L', x ∈ ownM A L ∨ H x = none) → (∀ x, DidV H' s e v → v = .ref x → H x = none) → MsAt H' A m' L' cd' hs → Mt m' (s.pre e) → DidV H' s e v → Q v H'
theorem has_mdid (D : Df K mg "_law_did" s_law_did ps_law_did) (T : Txt mg) (G_law_heard : Has P w K mg base 1 "_law_heard" ps_law_heard spMHeard) : Has P w K mg base 2 "_law_did" ps_law_did spMDid := Has.mk' D fun f fd F => by
  refine F.ok sc_law_did (fun vs H Q E h => ?_) (fun cdv A' outer s' H vs Q E hr h => ?_)
  · obtain ⟨A, m, L, cd, hs, s, n, b, e, rfl, _⟩ := h
    rfl
  · obtain ⟨A, m, L, cd, hs, s, n, b, e, rfl, ma, mt, ok, n200, e98, hb, fit, q⟩ := h
    refine ⟨_, (pss_cons (ps_set (i := 2) sc_law_did.nd rfl (Or.inl rfl) (pe_ix (ix_tupK (K := K)) (pv 1) pe_int (fun _ _ => rfl)))
(pss_cons (ps_if (pt_cmpR (op_in_seqK (K := K)) (pv 2) (pe_tup (pa_cons pe_str (pa_cons pe_str pa_nil))) (by rfl))
  (pss_cons (ps_expr (pe_bm PySem.F.plainAttrs_list PySem.F.slot_list_append PySem.F.type_list_append mt_append (pe_dget (hu_of hr) (pv 0) pe_str (fun _ _ => rfl)) (pa_cons (pe_tup (pa_cons (pe_ix (ix_tupK (K := K)) (pv 1) pe_int (fun _ _ => rfl)) (pa_cons (pe_ifExp (pt_cmpR op_eq (pv 2) pe_str (nomark _)) (pe_ix (ix_tupK (K := K)) (pv 1) pe_int (fun _ _ => rfl)) pe_non) pa_nil))) pa_nil)))
  (pss_one (ps_ret (pe_op op_sub (pe_callB (call_len_seqK (K := K)) (by rfl) T.m_len (by decide +kernel) (pa_cons (pe_dget (hu_of hr) (pv 0) pe_str (fun _ _ => rfl)) pa_nil)) pe_int))))
  pss_nil)
(pss_cons (ps_if (pt_cmpR op_eq (pv 2) pe_str (nomark _))
  (pss_one (ps_ret (pe_callH G_law_heard (hr.mono (by decide)) (by rfl) (pa_cons (pv 0) (pa_cons (pe_ix (ix_tupK (K := K)) (pv 1) pe_int (fun _ _ => rfl)) (pa_cons (pe_ix (ix_tupK (K := K)) (pv 1) pe_int (fun _ _ => rfl)) pa_nil))))))
  pss_nil)
(pss_cons (ps_if (pt_cmpR op_eq (pv 2) pe_str (nomark _))
  (pss_cons (ps_expr (pe_bm PySem.F.plainAttrs_list PySem.F.slot_list_append PySem.F.type_list_append mt_append (pe_dget (hu_of hr) (pv 0) pe_str (fun _ _ => rfl)) (pa_cons (pe_tup (pa_cons (pe_dget (hu_of hr) (pe_dget (hu_of hr) (pv 0) pe_str (fun _ _ => rfl)) (pe_ix (ix_tupK (K := K)) (pv 1) pe_int (fun _ _ => rfl)) (fun _ _ => rfl)) (pa_cons (pe_callTy call_dictD (by rfl) T.m_dict (by decide +kernel) (pa_cons (pe_dget (hu_of hr) (pe_dget (hu_of hr) (pv 0) pe_str (fun _ _ => rfl)) (pe_ix (ix_tupK (K := K)) (pv 1) pe_int (fun _ _ => rfl)) (fun _ _ => rfl)) pa_nil)) pa_nil))) pa_nil)))
  (pss_one (ps_ret (pe_op op_sub (pe_callB (call_len_seqK (K := K)) (by rfl) T.m_len (by decide +kernel) (pa_cons (pe_dget (hu_of hr) (pv 0) pe_str (fun _ _ => rfl)) pa_nil)) pe_int))))
  pss_nil)
(pss_cons (ps_if (pt_cmpR (op_in_seqK (K := K)) (pv 2) (pe_tup (pa_cons pe_str (pa_cons pe_str pa_nil))) (by rfl))
  (pss_cons (ps_set (i := 3) sc_law_did.nd rfl (Or.inl rfl) (pe_ifExp (pt_cmpR op_eq (pv 2) pe_str (nomark _)) (pe_tup (pa_cons pe_int (pa_cons pe_dnewK pa_nil))) (pe_ix (ix_listK (K := K)) (pe_dget (hu_of hr) (pv 0) pe_str (fun _ _ => rfl)) (pe_ix (ix_tupK (K := K)) (pv 1) pe_int (fun _ _ => rfl)) (fun _ _ => rfl))))
  (pss_one (ps_asg (pe_tup (pa_cons (pe_ix (ix_tupK (K := K)) (pv 3) pe_int (fun _ _ => rfl)) (pa_cons (pe_callTy call_dictD (by rfl) T.m_dict (by decide +kernel) (pa_cons (pe_ix (ix_tupK (K := K)) (pv 3) pe_int (fun _ _ => rfl)) pa_nil)) pa_nil))) (pg_tup rfl (pgs_cons (pg_sub (pe_dget (hu_of hr) (pv 0) pe_str (fun _ _ => rfl)) (pe_ix (ix_tupK (K := K)) (pv 1) pe_int (fun _ _ => rfl)) (set_dict (hu_of hr))) (pgs_cons (pg_sub (pe_dget (hu_of hr) (pv 0) pe_str (fun _ _ => rfl)) (pe_ix (ix_tupK (K := K)) (pv 1) pe_int (fun _ _ => rfl)) (set_dict (hu_of hr))) pgs_nil))))))
  pss_nil)
(pss_one (ps_ret pe_non))))))), ?_⟩
    have gl := ok.eg
    have sl := ok.es
    walk_at "w"
    refine WK.w_ixT hb e.at0 ?_
    walk_at "w"
    refine WK.w_if ?_
    walk_at "w"
    refine ⟨WK.sz, fun t1 nt1 => ?_⟩
    have g1 : Gr [] H (upd H t1 (.tup [.str "put", .str "drop"])) := Gr.new nt1
    have ht1 : (upd H t1 (.tup [.str "put", .str "drop"])) t1 = some (.tup [.str "put", .str "drop"]) := upd_same
    have ma1 := ma.k0 g1
    have hb1 := g1.tup _ _ hb
    generalize (upd H t1 (.tup [.str "put", .str "drop"])) = H1 at *
    refine WK.w_inT ht1 rfl rfl ?_
    walk_at "w"
    have add : ∀ (e' : Str × Option Int) (a : Addr) (H2 : Hp), Gr [] H1 H2 → H2 a = some (.tup (rwV e')) → ∃ xs, H2 (A 1) = some (.lst xs) ∧ xs.length = s.ents.length ∧ MsAt (upd H2 (A 1) (.lst (xs ++ [.ref a]))) A { m with rows := m.rows ++ [e'] } L cd hs ∧ Gr (ownM A L) H (upd H2 (A 1) (.lst (xs ++ [.ref a]))) := fun e' a H2 g2 ha => by
      have ma2 := ma1.k0 g2
      obtain ⟨xs, r1, r2⟩ := ma2.f1
      obtain ⟨ma3, g3⟩ := ma2.addR r1 (e := e') ⟨a, rfl, ha⟩
      exact ⟨xs, r1, by rw [r2.length, List.length_map, mt.r], ma3, ((g1.trans g2).mono (by simp)).trans g3⟩
    cases e with
    | put k v =>
      dsimp only [Ev.word]
      refine WK.w_ifP (by decide +kernel) ?_
      walk_at "w"
      obtain ⟨rs, r1, r2⟩ := ma1.f1
      have rl : rs.length = s.ents.length := by rw [r2.length, List.length_map, mt.r]
      refine ⟨A 0, _, rfl, ma1.d1, ?_⟩
      refine WK.w_tyL r1 ?_
      walk_at "w"
      walk_at "i"
      refine WK.w_ifP rfl ?_
      walk_at "w"
      refine ⟨WK.sz, fun a na => ?_⟩
      have g2 : Gr [] H1 (upd H1 a (.tup [.str k, .int v])) := Gr.new na
      have ha : (upd H1 a (.tup [.str k, .int v])) a = some (.tup (rwV (k, (some v)))) := upd_same
      have ma2 := ma1.k0 g2
      have r12 := g2.k0 r1
      generalize (upd H1 a (.tup [.str k, .int v])) = H2 at *
      walk_at "w"
      refine ⟨A 1, rs, _, rfl, rfl, r12, WK.sz' (by omega), ?_⟩
      obtain ⟨ma3, g3⟩ := ma2.addR r12 (e := (k, (some v))) ⟨a, rfl, ha⟩
      have r13 : (upd H2 (A 1) (.lst (rs ++ [.ref a]))) (A 1) = some (.lst (rs ++ [.ref a])) := upd_same
      generalize (upd H2 (A 1) (.lst (rs ++ [.ref a]))) = H3 at *
      walk_at "w"
      refine ⟨A 0, _, rfl, ma3.d1, ?_⟩
      walk_at "w"
      rw [show ((rs ++ [V.ref a]).length : Int) - 1 = ((s.ents.length : Nat) : Int) from by rw [List.length_append, List.length_singleton]; omega]
      refine q _ _ L cd H3 (((g1.trans g2).mono (by simp)).trans g3) (fun x hx => .inl hx) (fun x _ h => by cases h) ma3 ?_ rfl
      exact mt.row (k, (some v)) _ gl sl
    | drop k =>
      dsimp only [Ev.word]
      refine WK.w_ifP (by decide +kernel) ?_
      walk_at "w"
      obtain ⟨rs, r1, r2⟩ := ma1.f1
      have rl : rs.length = s.ents.length := by rw [r2.length, List.length_map, mt.r]
      refine ⟨A 0, _, rfl, ma1.d1, ?_⟩
      refine WK.w_tyL r1 ?_
      walk_at "w"
      walk_at "i"
      refine WK.w_ifN (by decide +kernel) ?_
      walk_at "w"
      refine ⟨WK.sz, fun a na => ?_⟩
      have g2 : Gr [] H1 (upd H1 a (.tup [.str k, .non])) := Gr.new na
      have ha : (upd H1 a (.tup [.str k, .non])) a = some (.tup (rwV (k, none))) := upd_same
      have ma2 := ma1.k0 g2
      have r12 := g2.k0 r1
      generalize (upd H1 a (.tup [.str k, .non])) = H2 at *
      walk_at "w"
      refine ⟨A 1, rs, _, rfl, rfl, r12, WK.sz' (by omega), ?_⟩
      obtain ⟨ma3, g3⟩ := ma2.addR r12 (e := (k, none)) ⟨a, rfl, ha⟩
      have r13 : (upd H2 (A 1) (.lst (rs ++ [.ref a]))) (A 1) = some (.lst (rs ++ [.ref a])) := upd_same
      generalize (upd H2 (A 1) (.lst (rs ++ [.ref a]))) = H3 at *
      walk_at "w"
      refine ⟨A 0, _, rfl, ma3.d1, ?_⟩
      walk_at "w"
      rw [show ((rs ++ [V.ref a]).length : Int) - 1 = ((s.ents.length : Nat) : Int) from by rw [List.length_append, List.length_singleton]; omega]
      refine q _ _ L cd H3 (((g1.trans g2).mono (by simp)).trans g3) (fun x hx => .inl hx) (fun x _ h => by cases h) ma3 ?_ rfl
      exact mt.row (k, none) _ gl sl
    | read r u =>
      dsimp only [Ev.word]
      refine WK.w_ifN (by decide +kernel) ?_
      walk_at "w"
      refine WK.w_if ?_
      walk_at "w"
      refine WK.w_ifP rfl ?_
      walk_at "w"
      obtain ⟨z, tb', f1, f2, f3, f4⟩ := fit
      refine ⟨A, m, L, cd, hs, s, n, r, u, z, tb', rfl, ma1, mt, ok, n200, by omega, f1, f2, f3, f4, fun l xs m' H2 g2 ma2 nl hl tp mt2 => ?_⟩
      exact q _ m' L cd H2 ((g1.mono (by simp)).trans g2) (fun x hx => .inl hx) (fun x _ h => by cases h; exact g1.live _ nl) ma2 (mt2 _) ⟨l, xs, rfl, hl, tp⟩
    | save r =>
      dsimp only [Ev.word]
      refine WK.w_ifN (by decide +kernel) ?_
      walk_at "w"
      refine WK.w_if ?_
      walk_at "w"
      refine WK.w_ifN (by decide +kernel) ?_
      walk_at "w"
      refine WK.w_if ?_
      walk_at "w"
      refine WK.w_ifP rfl ?_
      obtain ⟨z, tb', f1, f2⟩ := fit
      obtain ⟨tb, gtb, sam, nd1, nd2⟩ := mt.tab f2
      obtain ⟨cs, c1, c2⟩ := ma1.f6
      have cl : cs.length = s.copies.length := by rw [c2.length, mt.cl]
      have ccl := ok.cl
      have sg := seats_get ma1.f4 r
      rw [mt.se, f1] at sg
      obtain ⟨ta, tm, hta, tg⟩ := ma1.tget gtb
      walk_at "w"
      refine ⟨A 0, _, rfl, ma1.d6, ?_⟩
      refine WK.w_tyL c1 ?_
      walk_at "w"
      refine ⟨A 0, _, rfl, ma1.d4, ?_⟩
      walk_at "w"
      refine ⟨A 4, .int z, rfl, sg, ?_⟩
      walk_at "w"
      refine ⟨A 0, _, rfl, ma1.d5, ?_⟩
      walk_at "w"
      refine ⟨A 5, .ref ta, rfl, tg, ?_⟩
      walk_at "w"
      refine ⟨ta, tabV tb, rfl, .inl hta, fun d nd => ?_⟩
      have dO := ma1.live nd
      have g2 : Gr [] H1 (upd H1 d (.dK (tabV tb))) := Gr.new nd
      have hd : (upd H1 d (.dK (tabV tb))) d = some (.dK (tabV tb)) := upd_same
      have ma2 := ma1.k0 g2
      have c12 := g2.k0 c1
      generalize (upd H1 d (.dK (tabV tb))) = H2 at *
      walk_at "w"
      refine ⟨WK.sz, fun a na => ?_⟩
      have g3 : Gr [] H2 (upd H2 a (.tup [.int z, .ref d])) := Gr.new na
      have ha : (upd H2 a (.tup [.int z, .ref d])) a = some (.tup [.int z, .ref d]) := upd_same
      have ma3 := ma2.k0 g3
      have c13 := g3.k0 c12
      have hd3 := g3.k0 hd
      generalize (upd H2 a (.tup [.int z, .ref d])) = H3 at *
      walk_at "w"
      refine ⟨A 6, cs, _, rfl, rfl, c13, WK.sz' (by omega), ?_⟩
      obtain ⟨ma4, g4⟩ := ma3.addC c13 ha hd3 dO
      have c14 : (upd H3 (A 6) (.lst (cs ++ [.ref a]))) (A 6) = some (.lst (cs ++ [.ref a])) := upd_same
      generalize (upd H3 (A 6) (.lst (cs ++ [.ref a]))) = H4 at *
      walk_at "w"
      refine ⟨A 0, _, rfl, ma4.d6, ?_⟩
      walk_at "w"
      rw [show ((cs ++ [V.ref a]).length : Int) - 1 = ((s.copies.length : Nat) : Int) from by rw [List.length_append, List.length_singleton]; omega]
      refine q _ _ L (d :: cd) H4 ((((g1.trans g2).trans g3).mono (by simp)).trans g4) (fun x hx => .inl hx) (fun x _ h => by cases h) ma4 ?_ rfl
      have e1 : (getA s.seats r).getD 0 = z := by rw [f1]; rfl
      have e2 : s.tab r = ordS tb' := by unfold LS.tab; rw [f2]; rfl
      show Mt _ { s with time := s.time + 1, copies := s.copies ++ [((getA s.seats r).getD 0, s.tab r)] }
      rw [e1, e2]
      refine mt.copy _ (fun k => ?_) nd1 (((ordS_perm _).map _).nodup_iff.mpr nd2)
      rw [getA_perm (ordS_perm _) (((ordS_perm _).map _).nodup_iff.mpr nd2)]
      exact sam k
    | wait =>
      dsimp only [Ev.word]
      refine WK.w_ifN (by decide +kernel) ?_
      walk_at "w"
      refine WK.w_if ?_
      walk_at "w"
      refine WK.w_ifN (by decide +kernel) ?_
      walk_at "w"
      refine WK.w_if ?_
      walk_at "w"
      refine WK.w_ifN (by decide +kernel) ?_
      walk_at "w"
      refine WK.w_if ?_
      walk_at "w"
      refine ⟨WK.sz, fun t2 nt2 => ?_⟩
      have g2 : Gr [] H1 (upd H1 t2 (.tup [.str "join", .str "load"])) := Gr.new nt2
      have ht2 : (upd H1 t2 (.tup [.str "join", .str "load"])) t2 = some (.tup [.str "join", .str "load"]) := upd_same
      have ma2 := ma1.k0 g2
      have hb2 := g2.tup _ _ hb1
      have g02 := g1.trans g2
      generalize (upd H1 t2 (.tup [.str "join", .str "load"])) = H2 at *
      refine WK.w_inT ht2 rfl rfl ?_
      walk_at "w"
      refine WK.w_ifN (by decide +kernel) ?_
      walk_at "w"
      exact q _ m L cd H2 (g02.mono (by simp)) (fun x hx => .inl hx) (fun x _ h => by cases h) ma2 (mt.later _) rfl
    | join r =>
      dsimp only [Ev.word]
      refine WK.w_ifN (by decide +kernel) ?_
      walk_at "w"
      refine WK.w_if ?_
      walk_at "w"
      refine WK.w_ifN (by decide +kernel) ?_
      walk_at "w"
      refine WK.w_if ?_
      walk_at "w"
      refine WK.w_ifN (by decide +kernel) ?_
      walk_at "w"
      refine WK.w_if ?_
      walk_at "w"
      refine ⟨WK.sz, fun t2 nt2 => ?_⟩
      have g2 : Gr [] H1 (upd H1 t2 (.tup [.str "join", .str "load"])) := Gr.new nt2
      have ht2 : (upd H1 t2 (.tup [.str "join", .str "load"])) t2 = some (.tup [.str "join", .str "load"]) := upd_same
      have ma2 := ma1.k0 g2
      have hb2 := g2.tup _ _ hb1
      have g02 := g1.trans g2
      generalize (upd H1 t2 (.tup [.str "join", .str "load"])) = H2 at *
      refine WK.w_inT ht2 rfl rfl ?_
      walk_at "w"
      refine WK.w_ifP (by decide +kernel) ?_
      walk_at "w"
      walk_at "i"
      refine WK.w_ifP rfl ?_
      walk_at "w"
      intro d nd
      have g3a : Gr [] H2 (upd H2 d (.dK [])) := Gr.new nd
      have hd2 : (upd H2 d (.dK [])) d = some (.dK (tabV [])) := upd_same
      generalize (upd H2 d (.dK [])) = H2a at *
      walk_at "w"
      refine ⟨WK.sz, fun a na => ?_⟩
      have g3b : Gr [] H2a (upd H2a a (.tup [.int 0, .ref d])) := Gr.new na
      have ha3 : (upd H2a a (.tup [.int 0, .ref d])) a = some (.tup [.int 0, .ref d]) := upd_same
      have hd3 := g3b.k0 hd2
      have g3 := g3a.trans g3b
      have ma3 := ma2.k0 g3
      have hb3 := g3.tup _ _ hb2
      generalize (upd H2a a (.tup [.int 0, .ref d])) = H3 at *
      obtain ⟨z, ez⟩ : ∃ z : Int, z = 0 := ⟨0, rfl⟩
      obtain ⟨tb, etb⟩ : ∃ tb : List (Str × Int), tb = [] := ⟨[], rfl⟩
      rw [← ez] at ha3
      rw [← etb] at hd3
      walk_at "w"
      refine ⟨d, tabV tb, rfl, .inl hd3, fun d2 nd2 => ?_⟩
      have dO := ma3.live nd2
      have dC := ma3.livecd nd2
      have g4 : Gr [] H3 (upd H3 d2 (.dK (tabV tb))) := Gr.new nd2
      have hd4 : (upd H3 d2 (.dK (tabV tb))) d2 = some (.dK (tabV tb)) := upd_same
      have ma4 := ma3.k0 g4
      have hb4 := g4.tup _ _ hb3
      generalize (upd H3 d2 (.dK (tabV tb))) = H4 at *
      walk_at "w"
      refine ⟨WK.sz, fun p5 np5 => ?_⟩
      have g5 : Gr [] H4 (upd H4 p5 (.tup [.int z, .ref d2])) := Gr.new np5
      have hp5 : (upd H4 p5 (.tup [.int z, .ref d2])) p5 = some (.tup [.int z, .ref d2]) := upd_same
      have ma5 := ma4.k0 g5
      have hd5 := g5.k0 hd4
      have hb5 := g5.tup _ _ hb4
      have g05 := ((g02.trans g3).trans g4).trans g5
      generalize (upd H4 p5 (.tup [.int z, .ref d2])) = H5 at *
      walk_at "w"
      have sll := ok.sl
      have tll := ok.tl
      have Ll : L.length ≤ 200 := by
        have z := congrArg List.length mt.tk
        rw [List.length_map, List.length_map] at z
        rw [ma.td.length]
        omega
      refine ⟨A 0, .ref (A 4), rfl, ma5.d4, ?_⟩
      walk_at "w"
      refine ⟨A 4, _, rfl, seats_put ma5.f4 (by rw [mt.se]; omega) r z, ?_⟩
      obtain ⟨ma6, g6⟩ := ma5.setS (putA m.seats r z)
      have hd6 := g6.keep _ _ dO hd5
      have hb6 := g6.tup _ _ hb5
      generalize (upd H5 (A 4) (.dK (seatsV (putA m.seats r z)))) = H6 at *
      walk_at "w"
      refine ⟨A 0, .ref (A 5), rfl, ma6.d5, ?_⟩
      walk_at "w"
      refine ⟨A 5, _, rfl, tabs_put ma6.f5 (by omega) r d2, ?_⟩
      obtain ⟨ma7, g7, sub⟩ := ma6.newTab r hd6 dO dC
      walk_at "w"
      refine q _ _ (putA L r d2) cd _ (((g05.mono (by simp)).trans g6).trans g7) (fun x hx => (sub x hx).elim (fun e => .inr ?_) .inl) (fun x _ h => by cases h) ma7 ?_ rfl
      · rw [e]
        exact (g02.trans g3).live _ nd2
      · rw [ez, etb]
        exact mt.seat (tb' := []) _ (fun _ => rfl) List.nodup_nil List.nodup_nil
    | load r c =>
      dsimp only [Ev.word]
      refine WK.w_ifN (by decide +kernel) ?_
      walk_at "w"
      refine WK.w_if ?_
      walk_at "w"
      refine WK.w_ifN (by decide +kernel) ?_
      walk_at "w"
      refine WK.w_if ?_
      walk_at "w"
      refine WK.w_ifN (by decide +kernel) ?_
      walk_at "w"
      refine WK.w_if ?_
      walk_at "w"
      refine ⟨WK.sz, fun t2 nt2 => ?_⟩
      have g2 : Gr [] H1 (upd H1 t2 (.tup [.str "join", .str "load"])) := Gr.new nt2
      have ht2 : (upd H1 t2 (.tup [.str "join", .str "load"])) t2 = some (.tup [.str "join", .str "load"]) := upd_same
      have ma2 := ma1.k0 g2
      have hb2 := g2.tup _ _ hb1
      have g02 := g1.trans g2
      generalize (upd H1 t2 (.tup [.str "join", .str "load"])) = H2 at *
      refine WK.w_inT ht2 rfl rfl ?_
      walk_at "w"
      refine WK.w_ifP (by decide +kernel) ?_
      walk_at "w"
      walk_at "i"
      refine WK.w_ifN (by decide +kernel) ?_
      obtain ⟨c0, cll⟩ := fit
      obtain ⟨cs, c1, c2⟩ := ma2.f6
      have cl : cs.length = s.copies.length := by rw [c2.length, mt.cl]
      have hcs := List.getElem?_eq_getElem (show c.toNat < cs.length by omega)
      obtain ⟨cp, hcp, a, d, ea, dcd, ha3, hd3⟩ := pr_get c2 hcs
      obtain ⟨z, tb⟩ := cp
      walk_at "w"
      refine ⟨A 0, _, rfl, ma2.d6, ?_⟩
      walk_at "w"
      refine ⟨A 6, cs, c, .ref a, rfl, rfl, SqL.of c1, WK.at_ofG (j := c.toNat) (by omega) (by rw [hcs, ea]), ?_⟩
      have g3 := Gr.refl [] H2
      have ma3 := ma2
      have hb3 := hb2
      walk_at "w"
      refine ⟨d, tabV tb, rfl, .inl hd3, fun d2 nd2 => ?_⟩
      have dO := ma3.live nd2
      have dC := ma3.livecd nd2
      have g4 : Gr [] H2 (upd H2 d2 (.dK (tabV tb))) := Gr.new nd2
      have hd4 : (upd H2 d2 (.dK (tabV tb))) d2 = some (.dK (tabV tb)) := upd_same
      have ma4 := ma3.k0 g4
      have hb4 := g4.tup _ _ hb3
      generalize (upd H2 d2 (.dK (tabV tb))) = H4 at *
      walk_at "w"
      refine ⟨WK.sz, fun p5 np5 => ?_⟩
      have g5 : Gr [] H4 (upd H4 p5 (.tup [.int z, .ref d2])) := Gr.new np5
      have hp5 : (upd H4 p5 (.tup [.int z, .ref d2])) p5 = some (.tup [.int z, .ref d2]) := upd_same
      have ma5 := ma4.k0 g5
      have hd5 := g5.k0 hd4
      have hb5 := g5.tup _ _ hb4
      have g05 := ((g02.trans g3).trans g4).trans g5
      generalize (upd H4 p5 (.tup [.int z, .ref d2])) = H5 at *
      walk_at "w"
      have sll := ok.sl
      have tll := ok.tl
      have Ll : L.length ≤ 200 := by
        have z := congrArg List.length mt.tk
        rw [List.length_map, List.length_map] at z
        rw [ma.td.length]
        omega
      refine ⟨A 0, .ref (A 4), rfl, ma5.d4, ?_⟩
      walk_at "w"
      refine ⟨A 4, _, rfl, seats_put ma5.f4 (by rw [mt.se]; omega) r z, ?_⟩
      obtain ⟨ma6, g6⟩ := ma5.setS (putA m.seats r z)
      have hd6 := g6.keep _ _ dO hd5
      have hb6 := g6.tup _ _ hb5
      generalize (upd H5 (A 4) (.dK (seatsV (putA m.seats r z)))) = H6 at *
      walk_at "w"
      refine ⟨A 0, .ref (A 5), rfl, ma6.d5, ?_⟩
      walk_at "w"
      refine ⟨A 5, _, rfl, tabs_put ma6.f5 (by omega) r d2, ?_⟩
      obtain ⟨ma7, g7, sub⟩ := ma6.newTab r hd6 dO dC
      walk_at "w"
      refine q _ _ (putA L r d2) cd _ (((g05.mono (by simp)).trans g6).trans g7) (fun x hx => (sub x hx).elim (fun e => .inr ?_) .inl) (fun x _ h => by cases h) ma7 ?_ rfl
      · rw [e]
        exact (g02.trans g3).live _ nd2
      · have hy := List.getElem?_eq_getElem (show c.toNat < s.copies.length by omega)
        obtain ⟨e1, e2, e3, e4⟩ := mt.c _ _ _ hcp hy
        have ey : s.copies.getD c.toNat (0, []) = s.copies[c.toNat]'(by omega) := by rw [List.getD_eq_getElem?_getD, hy]; rfl
        have e1 : z = (s.copies[c.toNat]'(by omega)).1 := e1
        show Mt _ { s with time := s.time + 1, seats := putA s.seats r (s.copies.getD c.toNat (0, [])).1, tabs := putA s.tabs r (mrgA (s.copies.getD c.toNat (0, [])).2) }
        rw [ey, ← e1]
        exact mt.seat _ (fun k => by rw [mrgA_get e4]; exact e2 k) e3 (mrg_nd List.nodup_nil)

end
end PK
namespace PK
open PySem L2
section
variable {P : Program} {w : World} {K : PySem.W.Frag} {mg : Str → Option Value} {base : Heap}
section
variable {X : Cx} {k : Nat} {x : Str} {ps : List Str} {sp : Sp} {pos p : Pos}
theorem pe_call0H (D : Has X.prog X.w X.K X.mg X.base k x ps sp) (hr : Room k X.A) (hg : Gl X x) (hdb : (x == ("__debug__" : Str)) = false := by decide) : PE X (.Call (.Name x p) [] [] pos) (tCall sp [] E0 tNil) := by
  obtain ⟨f, fd, F, m, kp, b⟩ := D.ex
  exact pe_call0 F hr hg m kp b .nil pass0 hdb
end

end
end PK
namespace PK
open PySem L2
section
variable {P : Program} {w : World} {K : PySem.W.Frag} {mg : Str → Option Value} {base : Heap}
/-- a machine begun behind B -/
structure NewM (B H : Hp) (A : Nat → Addr) (L : List (Int × Addr)) : Prop where
  g : Gr [] B H
  n : ∀ x ∈ ownM A L, B x = none
theorem NewM.go {B H H' : Hp} {A : Nat → Addr} {L L' : List (Int × Addr)} (h : NewM B H A L) (g : Gr (ownM A L) H H') (sub : ∀ x ∈ ownM A L', x ∈ ownM A L ∨ H x = none) : NewM B H' A L' := by
  refine ⟨Gr.of_ex fun a o e => g.keep a o (fun z => ?_) (h.g.k0 e), fun x hx => ?_⟩
  · rw [h.n a z] at e
    cases e
  · rcases sub x hx with z | z
    · exact h.n x z
    · exact h.g.live x z
theorem NewM.same {B H H' : Hp} {A : Nat → Addr} {L : List (Int × Addr)} (h : NewM B H A L) (g : Gr (ownM A L) H H') : NewM B H' A L := h.go g fun x hx => .inl hx
theorem NewM.k0 {B H H' : Hp} {A : Nat → Addr} {L : List (Int × Addr)} (h : NewM B H A L) (g : Gr [] H H') : NewM B H' A L := ⟨h.g.trans g, h.n⟩
abbrev swV (b : Int × Int) : List V := [.int b.1, .int b.2]
def SwT (H : Hp) (t : Addr) (bs : List (Int × Int)) : Prop := ∃ xs, H t = some (.tup xs) ∧ Tps H xs (bs.map swV)
theorem SwT.gr {H H' : Hp} {M : List Addr} {t : Addr} {bs : List (Int × Int)} (h : SwT H t bs) (g : Gr M H H') : SwT H' t bs := by
  obtain ⟨xs, h1, h2⟩ := h
  exact ⟨xs, g.tup _ _ h1, h2.gr g⟩
def GdT (H : Hp) (t : Addr) (gs : List (Str × Int)) : Prop := ∃ xs, H t = some (.tup xs) ∧ Tps H xs (gs.map gdV)
theorem GdT.gr {H H' : Hp} {M : List Addr} {t : Addr} {gs : List (Str × Int)} (h : GdT H t gs) (g : Gr M H H') : GdT H' t gs := by
  obtain ⟨xs, h1, h2⟩ := h
  exact ⟨xs, g.tup _ _ h1, h2.gr g⟩
theorem ok_unmarks {s : LS} {n : Nat} (k : s.marks.Ok n) : s.Ok n := by
  refine ⟨?_, k.es, k.en, k.s0, k.sl, k.tl, k.c0, k.cl, k.g0, k.tw, k.cw⟩
  have z := k.eg
  have e : s.marks.gone.length = s.gone.length := lets_len2 s
  rw [e] at z
  exact z
theorem new_marks (h : Int) (gs : List (Str × Int)) : (LS.new h gs).marks = LS.new h gs := by
  have e : (LS.new h gs).lets = [] := List.eq_nil_of_length_eq_zero (lets_len2 _)
  show ({ (LS.new h gs) with gone := (LS.new h gs).lets } : LS) = _
  rw [e]
  rfl
theorem swAll_take {bs : List (Int × Int)} {t : Nat} {s : LS} {n : Nat} {b : Int × Int} (h : bs[n]? = some b) : LS.swAll (bs.take (n + 1)) t s = LS.swAt t (LS.swAll (bs.take n) t s) b := by
  unfold LS.swAll
  rw [take_snoc h, List.foldl_append]
  rfl
theorem swAll_keep (t : Nat) : ∀ (bs : List (Int × Int)) (s : LS), (LS.swAll bs t s).hold = s.hold ∧ (LS.swAll bs t s).guards = s.guards ∧ (LS.swAll bs t s).time = s.time ∧ (LS.swAll bs t s).ents = s.ents
  | [], _ => ⟨rfl, rfl, rfl, rfl⟩
  | b :: bs, s => by
    have e : (LS.swAt t s b).hold = s.hold ∧ (LS.swAt t s b).guards = s.guards ∧ (LS.swAt t s b).time = s.time ∧ (LS.swAt t s b).ents = s.ents := by
      unfold LS.swAt
      split
      · exact ⟨rfl, rfl, rfl, rfl⟩
      · exact ⟨rfl, rfl, rfl, rfl⟩
    obtain ⟨h1, h2, h3, h4⟩ := swAll_keep t bs (LS.swAt t s b)
    exact ⟨h1.trans e.1, h2.trans e.2.1, h3.trans e.2.2.1, h4.trans e.2.2.2⟩
theorem swAll_ok {n : Nat} (t : Nat) : ∀ (bs : List (Int × Int)) {s : LS}, s.Ok n → (LS.swAll bs t s).Ok n
  | [], _, k => k
  | b :: bs, s, k => by
    refine swAll_ok (n := n) t bs (s := LS.swAt t s b) ?_
    unfold LS.swAt
    split
    · exact k.swept' _
    · exact k
theorem stp_some {es : List Ev} {bs : List (Int × Int)} {s : LS} {t : Nat} {e : Ev} (h : es[t]? = some e) : LS.stp es bs s t = (s.swAll bs t).does e := by
  unfold LS.stp
  rw [h]
theorem stp_none {es : List Ev} {bs : List (Int × Int)} {s : LS} {t : Nat} (h : es[t]? = none) : LS.stp es bs s t = s.swAll bs t := by
  unfold LS.stp
  rw [h]
theorem does_keep (s : LS) (e : Ev) : (s.pre e).hold = s.hold ∧ (s.pre e).guards = s.guards ∧ (s.pre e).time = s.time + 1 := by
  cases e <;> exact ⟨rfl, rfl, rfl⟩
def RunSt (m : MS) (S : LS) (j : Nat) (keep : Int) (gs : List (Str × Int)) : Prop := ∃ s0, Mt m s0 ∧ s0.marks = S ∧ s0.time = j ∧ s0.hold = keep ∧ s0.guards = gs ∧ s0.Ok j
abbrev s_law_run : Stmt := topS 26
abbrev N_law_run : List Str := ["_law_table_here", "_law_keep", "_law_broom", "_law_watch", "_law_w", "_law_spot", "_law_when", "_law_end_here"]
abbrev ps_law_run : List Str := ["_law_table_here", "_law_keep", "_law_broom", "_law_watch"]
theorem sc_law_run : FnScope N_law_run ps_law_run (defScope s_law_run) := ⟨rfl, rfl, rfl, by decide +kernel, rfl, by decide +kernel, by decide +kernel⟩
def spMRun : Sp := fun vs H Q _ => ∃ (v wv : V) (t : Addr) (keep : Int) (es : List Ev) (bs : List (Int × Int)) (gs : List (Str × Int)), vs = [v, .int keep, .ref t, wv] ∧ IsTT H v es ∧ Valid .nil es ∧ es.length ≤ 90 ∧ SwT H t bs ∧ SwOk es bs ∧ ((wv = .non ∧ gs = []) ∨ ∃ w, wv = .ref w ∧ GdT H w gs) ∧ (∀ g ∈ gs, GdO g) ∧ gs.length ≤ 1000 ∧
  ∀ A m L cd hs H', NewM H H' A L → MsAt H' A m L cd hs → Mt m (finL es keep bs gs) → Q (.ref (A 0)) H'
theorem ok_mrun {dvs : List V} {f : Addr} {fd : FuncData} (F : FunD K "_law_run" "_law_run" (defArgs s_law_run) (defBody s_law_run) (defScope s_law_run) dvs [] f fd) (T : Txt mg) (G_law_bare : Has P w K mg base 1 "_law_bare" ps_law_bare spMBare) (G_law_leave : Has P w K mg base 2 "_law_leave" ps_law_leave spMLeave) (G_law_swept : Has P w K mg base 3 "_law_swept" ps_law_swept spMSwept) (G_law_did : Has P w K mg base 2 "_law_did" ps_law_did spMDid) :
    FnOk P w K mg base CX0 4 f fd ps_law_run spMRun := by
  refine funD_ok F sc_law_run (fun vs H Q E h => ?_) (fun cdv A' outer s' H vs Q E hr h => ?_)
  · obtain ⟨v, wv, t, keep, es, bs, gs, rfl, _⟩ := h
    rfl
  · obtain ⟨v, wv, t, keep, es, bs, gs, rfl, tt, va, l90, sw, sok, hw, gO, gl, q⟩ := h
    refine ⟨_, (pss_cons (ps_par (i := 4) (j := 3) (by rfl) sc_law_run.nd rfl rfl (by decide) rfl rfl (pa_cons (pe_call0H G_law_bare (hr.mono (by decide)) (by rfl)) (pa_cons (pe_ifExp (pt_cmpR op_notN (pv 3) pe_non (nomark _)) (pv 3) (pe_tup pa_nil)) pa_nil)) (by rfl))
(pss_cons (ps_for PassesOwn.never rfl (pi_range1 (by rfl) T.m_range (pa_cons (pe_op op_add (pe_callB (call_len_seqK (K := K)) (by rfl) T.m_len (by decide +kernel) (pa_cons (pv 0) pa_nil)) pe_int) pa_nil)) (pg_name (i := 5) sc_law_run.nd rfl (Or.inl rfl))
  (pss_cons (ps_expr (pe_callH G_law_leave (hr.mono (by decide)) (by rfl) (pa_cons (pv 4) (pa_cons (pv 1) (pa_cons (pv 5) (pa_cons (pv 3) pa_nil))))))
  (pss_cons (ps_for PassesOwn.never rfl (pi_tup (pv 2)) (pg_tup rfl (pgs_cons (pg_name (i := 6) sc_law_run.nd rfl (Or.inl rfl)) (pgs_cons (pg_name (i := 7) sc_law_run.nd rfl (Or.inl rfl)) pgs_nil)))
    (pss_one (ps_if (pt_cmpR op_eq (pv 6) (pv 5) (nomark _))
      (pss_one (ps_expr (pe_callH G_law_swept (hr.mono (by decide)) (by rfl) (pa_cons (pv 4) (pa_cons (pv 1) (pa_cons (pv 5) (pa_cons (pv 7) (pa_cons (pv 3) pa_nil))))))))
      pss_nil)))
  (pss_one (ps_if (pt_cmpR op_lt (pv 5) (pe_callB (call_len_seqK (K := K)) (by rfl) T.m_len (by decide +kernel) (pa_cons (pv 0) pa_nil)) (nomark _))
    (pss_one (ps_expr (pe_bm PySem.F.plainAttrs_list PySem.F.slot_list_append PySem.F.type_list_append mt_append (pe_dget (hu_of hr) (pv 4) pe_str (fun _ _ => rfl)) (pa_cons (pe_callH G_law_did (hr.mono (by decide)) (by rfl) (pa_cons (pv 4) (pa_cons (pe_ix (ix_tupK (K := K)) (pv 0) (pv 5) (fun _ _ => rfl)) pa_nil))) pa_nil))))
    pss_nil)))))
(pss_one (ps_ret (pv 4))))), ?_⟩
    walk_at "w"
    refine ⟨rfl, fun A H1 g1 nA ma1 => ?_⟩
    have nw1 : NewM H H1 A [] := ⟨g1, fun x hx => by
      rcases ownM_iff.mp hx with ⟨i, hi, rfl⟩ | z
      · exact nA i hi
      · cases z⟩
    obtain ⟨a, ts, rfl, ha, hev⟩ := id tt
    have tl : ts.length = es.length := hev.length
    walk_at "w"
    refine WK.w_gen (fun x H' => Gr [] H1 H' ∧ ∃ w, x = .ref w ∧ GdT H' w gs) ?_ (fun Q0 q0 => ?_)
    rotate_left
    · refine WK.w_ifE ?_
      walk_at "w"
      rcases hw with ⟨rfl, rfl⟩ | ⟨w, rfl, hw⟩
      · refine WK.w_ifN (by decide) ?_
        walk_at "w"
        refine ⟨WK.sz, fun p np => ?_⟩
        exact q0 _ _ ⟨Gr.new np, p, rfl, [], upd_same, .nil⟩
      · refine WK.w_ifP (by simp) ?_
        walk_at "w"
        exact q0 _ _ ⟨Gr.refl _ _, w, rfl, hw.gr g1⟩
    rintro _ H2 ⟨g2, w, rfl, gt2⟩
    have nw2 := nw1.k0 g2
    have ma2 := ma1.k0 g2
    clear nw1 ma1 nA hw
    walk_at "w"
    have tt2 := tt.gr nw2.g
    obtain ⟨a', ts2, ea, ha2, hev2⟩ := id tt2
    cases ea
    have tl2 : ts2.length = es.length := hev2.length
    refine ⟨a, ts2, rfl, .inr (SqT.of ha2), ?_⟩
    walk_at "w"
    refine ⟨by omega, by omega, ?_⟩
    rw [tl2]
    refine lp_range (fun j σ' H' => ∃ y5 y6 y7 m L cd hs, σ' = [some (.ref a), some (.int keep), some (.ref t), some (.ref w), some (.ref (A 0)), y5, y6, y7] ∧ NewM H H' A L ∧ GdT H' w gs ∧ MsAt H' A m L cd hs ∧ hs.length ≤ j ∧
        (j ≤ es.length → RunSt m (LS.stps es bs (LS.new keep gs) j) j keep gs) ∧ (j = es.length + 1 → Mt m (LS.stps es bs (LS.new keep gs) j)))
      ⟨none, none, none, MS.nil, [], [], [], rfl, nw2, gt2, ma2, Nat.le_refl _, fun _ => ⟨LS.new keep gs, Mt.nil _ _, new_marks _ _, rfl, rfl, rfl, LS.Ok.new fun g hg => (gO g hg).n⟩, fun h => by omega⟩ ?_ ?_
    · rintro j _ H3 hj ⟨y5, y6, y7, m, L, cd, hs, rfl, nw, gt, ma, hl, st, _⟩
      have jl : j ≤ es.length := by omega
      obtain ⟨s0, mt, em, et, ek, eg, ok0⟩ := st jl
      have fS := far_stps bs va keep gs j jl
      generalize eS : LS.stps es bs (LS.new keep gs) j = S at *
      have ents0 : s0.ents = S.ents := by rw [← em]; rfl
      have okS : S.Ok j := by rw [← em]; exact ok0.marks
      have el := okS.en
      obtain ⟨gxs, gh, gtp⟩ := id gt
      walk_at "w"
      refine ⟨A, m, L, cd, hs, s0, w, gxs, keep, _, rfl, ma, mt, gh, by rw [eg]; exact gtp, by rw [eg]; exact gO, by rw [eg]; exact gl, ek, by rw [et, Int.zero_add], by rw [ents0]; omega, ok0.up (by omega), fun m1 H4 g4 ma4 mt4 => ?_⟩
      rw [em] at mt4
      have nw4 := nw.same g4
      have gt4 := gt.gr g4
      have eSt : S.time = j := by rw [← em]; exact et
      have eSk : S.hold = keep := by rw [← em]; exact ek
      have eSg : S.guards = gs := by rw [← em]; exact eg
      clear mt ma nw gt gh gtp g4 em et ek eg ok0 ents0
      obtain ⟨bxs, bh, btp⟩ := sw.gr nw4.g
      have bl : bxs.length = bs.length := by rw [btp.length, List.length_map]
      walk_at "w"
      refine ⟨⟨bxs, SqT.of bh⟩, ?_⟩
      refine lp_tup (xs := bxs) (fun n σ' H' => ∃ y6 y7 m, σ' = [some (.ref a), some (.int keep), some (.ref t), some (.ref w), some (.ref (A 0)), some (.int (0 + (j : Int))), y6, y7] ∧ Gr (ownM A L) H4 H' ∧ MsAt H' A m L cd hs ∧ Mt m (LS.swAll (bs.take n) j S))
        ⟨_, _, m1, rfl, Gr.refl _ _, ma4, mt4⟩ (fun n σ' H' _ ⟨_, _, _, _, g, _⟩ => SqT.of (g.tup _ _ bh)) ?_ ?_
      · rintro n x _ H5 ex ⟨y6, y7, m5, rfl, g5, ma5, mt5⟩
        obtain ⟨y, f1, c, rfl, f2⟩ := pr_get btp ex
        obtain ⟨bw, hbw, rfl⟩ : ∃ bw, bs[n]? = some bw ∧ y = swV bw := by
          rw [List.getElem?_map] at f1
          cases e : bs[n]? with
          | none => rw [e] at f1; cases f1
          | some bw => rw [e] at f1; exact ⟨bw, rfl, (Option.some.inj f1).symm⟩
        have hc := g5.tup _ _ f2
        obtain ⟨k1, k2, k3, k4⟩ := swAll_keep j (bs.take n) S
        have ok5 := swAll_ok j (bs.take n) okS
        have f5 := fS.swAll (bs.take n)
        have etk := swAll_take (t := j) (s := S) hbw
        generalize LS.swAll (bs.take n) j S = S5 at *
        walk_at "w"
        walk_at "i"
        refine WK.w_2 (fun h1 => ?_) (fun h1 => ?_)
        · have h1 : bw.1 = (j : Int) := by omega
          obtain ⟨_, _, o3, o4⟩ := sok.at_ bw (List.mem_of_getElem? hbw)
          have u1 : bw.2 ≤ (S5.ents.length : Int) := by
            rw [f5.m.en]
            rw [h1, Int.toNat_natCast] at o4
            exact o4
          obtain ⟨gxs, gh, gtp⟩ := gt4.gr g5
          walk_at "w"
          refine ⟨A, m5, L, cd, hs, S5, w, gxs, keep, _, bw.2, rfl, ma5, mt5, gh, by rw [k2, eSg]; exact gtp, by rw [k2, eSg]; exact gO, by rw [k2, eSg]; exact gl, k1.trans eSk, by rw [k3, eSt, Int.zero_add], by rw [k4]; omega, ok5.up (by omega), o3, u1, fun m6 H6 g6 ma6 mt6 => ?_⟩
          refine ⟨_, _, m6, rfl, g5.trans g6, ma6, ?_⟩
          rw [etk]
          unfold LS.swAt
          rw [if_pos h1]
          exact mt6
        · walk_at "w"
          refine ⟨_, _, m5, rfl, g5, ma5, ?_⟩
          rw [etk]
          unfold LS.swAt
          rw [if_neg (by omega)]
          exact mt5
      rintro _ H5 ⟨y6, y7, m5, rfl, g5, ma5, mt5⟩
      rw [bl, List.take_length] at mt5
      obtain ⟨k1, k2, k3, k4⟩ := swAll_keep j bs S
      have ok5 := swAll_ok j bs okS
      have f5 := fS.swAll bs
      have nw5 := nw4.same g5
      have gt5 := gt4.gr g5
      have esu : LS.stps es bs (LS.new keep gs) (j + 1) = LS.stp es bs S j := by rw [stps_succ, eS]
      rw [esu]
      have en5 : (LS.swAll bs j S).ents.length ≤ j := by rw [k4]; exact el
      have tm5 : (LS.swAll bs j S).time = j := k3.trans eSt
      have hd5 : (LS.swAll bs j S).hold = keep := k1.trans eSk
      have gd5 : (LS.swAll bs j S).guards = gs := k2.trans eSg
      have stp1 : ∀ e, es[j]? = some e → LS.stp es bs S j = (LS.swAll bs j S).does e := fun e he => stp_some he
      have stp0 : es[j]? = none → LS.stp es bs S j = LS.swAll bs j S := fun he => stp_none he
      generalize LS.swAll bs j S = S5 at *
      clear k1 k2 k3 k4 ma4 mt4 nw4 gt4 g5 bh btp
      obtain ⟨a', ts5, ea, ha5, hev5⟩ := tt.gr nw5.g
      cases ea
      have tl5 : ts5.length = es.length := hev5.length
      walk_at "w"
      walk_at "i"
      refine ⟨a, ts5, rfl, .inr (SqT.of ha5), ?_⟩
      walk_at "w"
      refine WK.w_2 (fun h1 => ?_) (fun h1 => ?_)
      · have jl2 : j < es.length := by omega
        have he := List.getElem?_eq_getElem jl2
        have hv5 := List.getElem?_eq_getElem (show j < ts5.length by omega)
        obtain ⟨e', he', c, hc, hc5⟩ := pr_get hev5 hv5
        rw [he] at he'
        cases he'
        have fit := fits_at va he f5
        walk_at "w"
        refine ⟨A 0, _, rfl, ma5.d7, ?_⟩
        refine WK.w_tyL ma5.f7 ?_
        walk_at "w"
        refine ⟨a, ts5, _, .ref c, rfl, rfl, SqT.of ha5, WK.at_ofG (j := j) (by omega) (by rw [hv5, hc]), ?_⟩
        walk_at "w"
        refine ⟨A, m5, L, cd, hs, S5, j, c, es[j], rfl, ma5, mt5, ok5, by omega, by omega, hc5, fit, fun v6 m6 L6 cd6 H6 g6 sub6 _ ma6 mt6 _ => ?_⟩
        have nw6 := nw5.go g6 sub6
        walk_at "w"
        refine ⟨A 7, hs, v6, rfl, rfl, ma6.f7, WK.sz' (by omega), ?_⟩
        obtain ⟨ma7, g7⟩ := ma6.addH v6
        obtain ⟨p1, p2, p3⟩ := does_keep S5 es[j]
        refine ⟨_, _, _, m6, L6, cd6, _, rfl, nw6.same g7, (gt5.gr g6).gr g7, ma7, by rw [List.length_append, List.length_singleton]; omega, fun _ => ⟨S5.pre es[j], mt6, ?_, ?_, p1.trans hd5, p2.trans gd5, ?_⟩, fun z => by omega⟩
        · rw [pre_marks, stp1 _ he]
        · rw [p3, tm5]
          omega
        · refine ok_unmarks ?_
          rw [pre_marks]
          exact ok5.does fit
      · walk_at "w"
        refine ⟨_, _, _, m5, L, cd, hs, rfl, nw5, gt5, ma5, by omega, fun z => by omega, fun _ => ?_⟩
        rw [stp0 (List.getElem?_eq_none (by omega))]
        exact mt5
    · rintro _ H3 ⟨y5, y6, y7, m, L, cd, hs, rfl, nw, gt, ma, hl, _, st⟩
      walk_at "w"
      have z := st (by omega)
      have e : ((es.length : Int) + 1).toNat = es.length + 1 := by omega
      rw [e, stps_all sok keep gs] at z
      exact q A m L cd hs H3 nw ma z

end
end PK
namespace PK
open PySem L2
section
variable {P : Program} {w : World} {K : PySem.W.Frag} {mg : Str → Option Value} {base : Heap}
theorem rising_pw : ∀ {l : List Str} {p : Str}, PyProof.Rows.risingS p l = true → (∀ x ∈ l, ltS x p = false) ∧ l.Pairwise (fun a b => ltS b a = false)
  | [], p, _ => ⟨by simp, .nil⟩
  | x :: r, p, h => by
    have h : (!PySem.Spec.ltCps x.cps.toList p.cps.toList && PyProof.Rows.risingS x r) = true := h
    rw [Bool.and_eq_true] at h
    obtain ⟨h1, h2⟩ := h
    have h1 : ltS x p = false := by
      unfold ltS
      rw [← PyProof.Rows.ltCps_eq]
      simpa using h1
    obtain ⟨i1, i2⟩ := rising_pw h2
    refine ⟨fun y hy => ?_, List.pairwise_cons.mpr ⟨i1, i2⟩⟩
    rcases List.mem_cons.mp hy with rfl | hy
    · exact h1
    · exact ltS_tr h1 (i1 y hy)
theorem sorted_pw : ∀ {l : List Str}, PyProof.Rows.sortedS l = true → l.Pairwise (fun a b => ltS b a = false)
  | [], _ => .nil
  | x :: r, h => List.pairwise_cons.mpr (rising_pw (p := x) (l := r) h)
theorem keys_one {ys : List Str} {tb : List (Str × Int)} (h : PyProof.Rows.sortedS ys = true) (p : ys.Perm (tb.map (·.1))) : ys = (ordS tb).map (·.1) := by
  refine List.Perm.eq_of_pairwise (le := fun x y => ltS y x = false) (fun x y _ _ h1 h2 => ltS_eq h2 h1) (sorted_pw h) ?_ (p.trans ((ordS_perm tb).map _).symm)
  rw [List.pairwise_map]
  exact ordS_srt tb
theorem key_few {tb : List (Str × Int)} (nd : NdK tb) (h : ∀ q ∈ tb, KeyOk q.1) : tb.length ≤ 4 := by
  have go : ∀ {a b : List Str}, a.Nodup → (∀ k ∈ a, k ∈ b) → a.length ≤ b.length := by
    intro a
    induction a with
    | nil => intro b _ _; exact Nat.zero_le _
    | cons x a ih =>
      intro b h s
      rw [List.nodup_cons] at h
      have xb := s x List.mem_cons_self
      have z := ih (b := b.erase x) h.2 fun k hk => (List.mem_erase_of_ne (fun (e : k = x) => h.1 (by rw [← e]; exact hk))).mpr (s k (List.mem_cons_of_mem _ hk))
      rw [List.length_erase_of_mem xb] at z
      have := List.length_pos_of_mem xb
      rw [List.length_cons]
      omega
  have z := go (b := ["a", "b", "cc", "abc"]) nd fun k hk => by
    obtain ⟨q, hq, rfl⟩ := List.mem_map.mp hk
    rcases h q hq with e | e | e | e <;> rw [e] <;> simp
  rw [List.length_map] at z
  exact z
/-- what a machine needs beside a Log to tell who is wrong -/
structure WrOk (s : LS) : Prop where
  w : s.Well
  k : ∀ x ∈ s.ents, KeyOk x.1
  l : s.ents.length ≤ 99
  t : s.tabs.length ≤ 60
abbrev s_law_wrong : Stmt := topS 27
abbrev N_law_wrong : List Str := ["_law_w", "_law_found", "_law_ends", "_law_k", "_law_key_so", "_law_worth", "_law_p", "_law_last"]
abbrev ps_law_wrong : List Str := ["_law_w"]
theorem sc_law_wrong : FnScope N_law_wrong ps_law_wrong (defScope s_law_wrong) := ⟨rfl, rfl, rfl, by decide +kernel, rfl, by decide +kernel, by decide +kernel⟩
def spMWrong : Sp := fun vs H Q _ => ∃ (A : Nat → Addr) (m : MS) (L : List (Int × Addr)) (cd : List Addr) (hs : List V) (s : LS), vs = [.ref (A 0)] ∧ MsAt H A m L cd hs ∧ Mt m s ∧ WrOk s ∧ ∀ l xs H', Gr [] H H' → H l = none → H' l = some (.lst xs) → Tps H' xs (s.wps.map wpV) → Q (.ref l) H'
theorem has_mwrong (D : Df K mg "_law_wrong" s_law_wrong ps_law_wrong) (T : Txt mg) : Has P w K mg base 1 "_law_wrong" ps_law_wrong spMWrong := Has.mk' D fun f fd F => by
  refine F.ok sc_law_wrong (fun vs H Q E h => ?_) (fun cdv A' outer s' H vs Q E hr h => ?_)
  · obtain ⟨A, m, L, cd, hs, s, rfl, _⟩ := h
    rfl
  · obtain ⟨A, m, L, cd, hs, s, rfl, ma, mt, wo, q⟩ := h
    refine ⟨_, (pss_cons (ps_par (i := 1) (j := 2) (by rfl) sc_law_wrong.nd rfl rfl (by decide) rfl rfl (pa_cons (pe_lst pa_nil) (pa_cons pe_dnewK pa_nil)) (by rfl))
(pss_cons (ps_for PassesOwn.never rfl (pi_enum (by rfl) T.m_enumerate (pa_cons (pe_dget (hu_of hr) (pv 0) pe_str (fun _ _ => rfl)) pa_nil)) (pg_tup rfl (pgs_cons (pg_name (i := 3) sc_law_wrong.nd rfl (Or.inl rfl)) (pgs_cons (pg_tup rfl (pgs_cons (pg_name (i := 4) sc_law_wrong.nd rfl (Or.inl rfl)) (pgs_cons (pg_name (i := 5) sc_law_wrong.nd rfl (Or.inl rfl)) pgs_nil))) pgs_nil)))
  (pss_one (ps_dput (hu_of hr) (pv 2) (pv 4) (pv 3) rfl)))
(pss_cons (ps_for PassesOwn.never rfl (pi_list (pe_callB (call_sortedDI rfl) (by rfl) T.m_sorted (by decide +kernel) (pa_cons (pe_dget (hu_of hr) (pv 0) pe_str (fun _ _ => rfl)) pa_nil))) (pg_name (i := 6) sc_law_wrong.nd rfl (Or.inl rfl))
  (pss_one (ps_for PassesOwn.never rfl (pi_list (pe_callB (call_sortedD rfl) (by rfl) T.m_sorted (by decide +kernel) (pa_cons (pe_dget (hu_of hr) (pe_dget (hu_of hr) (pv 0) pe_str (fun _ _ => rfl)) (pv 6) (fun _ _ => rfl)) pa_nil))) (pg_name (i := 4) sc_law_wrong.nd rfl (Or.inl rfl))
    (pss_cons (ps_set (i := 7) sc_law_wrong.nd rfl (Or.inl rfl) (pe_dget (hu_of hr) (pv 2) (pv 4) (fun _ _ => rfl)))
    (pss_one (ps_if (PW.pt (pw_and (pt_cmpR op_isN (pe_ix (ix_tupK (K := K)) (pe_ix (ix_listK (K := K)) (pe_dget (hu_of hr) (pv 0) pe_str (fun _ _ => rfl)) (pv 7) (fun _ _ => rfl)) pe_int (fun _ _ => rfl)) pe_non (nomark _)) (pw_and1 (pt_cmpR op_lt (pv 7) (pe_dget (hu_of hr) (pe_dget (hu_of hr) (pv 0) pe_str (fun _ _ => rfl)) (pv 6) (fun _ _ => rfl)) (nomark _)))))
      (pss_one (ps_expr (pe_bm PySem.F.plainAttrs_list PySem.F.slot_list_append PySem.F.type_list_append mt_append (pv 1) (pa_cons (pe_tup (pa_cons (pv 6) (pa_cons (pv 4) pa_nil))) pa_nil))))
      pss_nil))))))
(pss_one (ps_ret (pv 1)))))), ?_⟩
    have el := wo.l
    walk_at "w"
    refine ⟨WK.sz, fun F nF => ?_⟩
    have g1 : Gr [] H (upd H F (.lst [])) := Gr.new nF
    have hF : (upd H F (.lst [])) F = some (.lst []) := upd_same
    generalize (upd H F (.lst [])) = H1 at *
    walk_at "w"
    intro Z nZ
    have g2 : Gr [] H1 (upd H1 Z (.dK [])) := Gr.new nZ
    have hZ : (upd H1 Z (.dK [])) Z = some (.dK (tabV [])) := upd_same
    have hF2 := g2.k0 hF
    have ZF : Z ≠ F := fun e => by rw [e, hF] at nZ; cases nZ
    have g02 := g1.trans g2
    have nZ0 := g1.live _ nZ
    have ma2 := ma.k0 g02
    generalize (upd H1 Z (.dK [])) = H2 at *
    obtain ⟨rs, r1, r2⟩ := ma2.f1
    have rl : rs.length = s.ents.length := by rw [r2.length, List.length_map, mt.r]
    have ZO : Z ∉ ownM A L := (ma.k0 g1).live nZ
    have FO : F ∉ ownM A L := ma.live nF
    walk_at "w"
    refine w_enum ?_
    walk_at "w"
    refine ⟨A 0, _, rfl, ma2.d1, ?_⟩
    walk_at "w"
    refine ⟨A 1, rs, rfl, SqL.of r1, ?_⟩
    have A1Z : A 1 ≠ Z := fun e => ZO (by rw [← e]; exact ownM_cell (by decide))
    refine lp_it (walk_enum (K := K) (a := A 1) (xs := rs)) (fun i σ' H' => ∃ y3 y4 y5 en, σ' = [some (.ref (A 0)), some (.ref F), some (.ref Z), y3, y4, y5, none, none] ∧ Gr [Z] H2 H' ∧ H' Z = some (.dK (tabV en)) ∧ en.length ≤ i ∧ ∀ key, getA en key = (lastN s.ents key i).map fun (n : Nat) => (n : Int))
      ⟨none, none, none, [], rfl, Gr.refl _ _, hZ, Nat.le_refl _, fun _ => rfl⟩ (fun i σ' H' _ ⟨_, _, _, _, _, g, _⟩ => SqL.of (g.k1 r1 A1Z)) ?_ ?_
    · rintro i y _ H3 H4 hi ⟨y3, y4, y5, en, rfl, g3, hZ3, enl, iff⟩ ⟨tt', v1, v2, rfl, nt, rfl, e1, e2⟩
      cases e1
      rw [rl] at hi
      obtain ⟨rw2, e3, c, rfl, hc⟩ := pr_get r2 e2
      have ee : rw2 = rwV (enAt s.ents i) := by
        rw [List.getElem?_map, mt.r, List.getElem?_eq_getElem hi] at e3
        unfold enAt
        rw [List.getD_eq_getElem?_getD, List.getElem?_eq_getElem hi]
        exact (Option.some.inj e3).symm
      subst ee
      have g4 : Gr [] H3 (upd H3 tt' (.tup [.int (i : Nat), .ref c])) := Gr.new nt
      have ht4 : (upd H3 tt' (.tup [.int (i : Nat), .ref c])) tt' = some (.tup [.int (i : Nat), .ref c]) := upd_same
      have hZ4 := g4.k0 hZ3
      have hc4 := g4.tup _ _ (g3.tup _ _ hc)
      have g24 := g3.trans (g4.mono (by simp))
      generalize (upd H3 tt' (.tup [.int (i : Nat), .ref c])) = H4 at *
      walk_at "w"
      refine ⟨Z, _, rfl, tab_put hZ4 (by omega) (enAt s.ents i).1 i, ?_⟩
      refine ⟨_, _, _, _, rfl, g24.trans (Gr.mutD hZ4 (by simp)), upd_same, Nat.le_trans (putA_len _ _ _) (Nat.succ_le_succ enl), fun key => ?_⟩
      rw [getA_put2, iff]
      show _ = (if (s.ents.getD i ("", none)).1 = key then some i else lastN s.ents key i).map _
      by_cases c : key = (enAt s.ents i).1
      · rw [if_pos c, if_pos c.symm]
        rfl
      · rw [if_neg c, if_neg (fun e => c e.symm)]
    rintro _ H3 ⟨y3, y4, y5, en, rfl, g3, hZ3, enl, iff⟩
    rw [rl] at iff enl
    have hF3 := g3.k1 hF2 ZF.symm
    have nZm : ∀ x ∈ ownM A L, x ∉ [Z] := fun x hx h => ZO (by rw [← List.mem_singleton.mp h]; exact hx)
    have ma3 := ma2.keep g3 (fun i hi => nZm _ (ownM_cell hi)) (fun q hq => nZm _ (List.mem_append_right _ (List.mem_map.mpr ⟨q, hq, rfl⟩))) (fun d hd h => (ma.k0 g1).livecd nZ (by rw [← List.mem_singleton.mp h]; exact hd))
    have g03 := g02.own g3 nZ0
    clear r1 r2 rl g3 ma2 hZ hF2 hF g1 g2
    walk_at "w"
    refine ⟨A 0, _, rfl, ma3.d5, ?_⟩
    have kk : L.map (·.1) = m.tabs.map (·.1) := td_keys ma3.td
    have tl := wo.t
    refine ⟨A 5, tabsV L, L.map (·.1), rfl, .inl ma3.f5, ?_, ?_, fun ys l hp hsrt nl => ?_⟩
    · unfold tabsV
      rw [List.map_map, List.map_map]
      rfl
    · rw [kk, mt.tk, List.length_map]
      omega
    rw [kk, mt.tk] at hp
    obtain rfl := srtI_one hp hsrt
    have g4 : Gr [] H3 (upd H3 l (.lst ((srtI (s.tabs.map (·.1))).map V.int))) := Gr.new nl
    have hl4 : (upd H3 l (.lst ((srtI (s.tabs.map (·.1))).map V.int))) l = some (.lst ((srtI (s.tabs.map (·.1))).map V.int)) := upd_same
    have ma4 := ma3.k0 g4
    have hZ4 := g4.k0 hZ3
    have hF4 := g4.k0 hF3
    have lF : l ≠ F := fun e => by rw [e, hF3] at nl; cases nl
    generalize (upd H3 l (.lst ((srtI (s.tabs.map (·.1))).map V.int))) = H4 at *
    have g04 := g03.trans g4
    have ym : ∀ r ∈ srtI (s.tabs.map (·.1)), r ∈ s.tabs.map (·.1) := fun r hr => (srtI_perm _).mem_iff.mp hr
    have yl : (srtI (s.tabs.map (·.1))).length ≤ 60 := by rw [(srtI_perm _).length_eq, List.length_map]; exact tl
    have ewp : s.wps = (srtI (s.tabs.map (·.1))).flatMap s.at1 := rfl
    rw [ewp] at q
    generalize srtI (s.tabs.map (·.1)) = ys at *
    refine ⟨l, rfl, ⟨_, SqL.of hl4⟩, ?_⟩
    have FC : F ∉ cd := ma.livecd nF
    have nFm : ∀ x ∈ ownM A L, x ∉ [F] := fun x hx h => FO (by rw [← List.mem_singleton.mp h]; exact hx)
    have mkeep : ∀ {H5 : Hp}, Gr [F] H4 H5 → MsAt H5 A m L cd hs := fun g => ma4.keep g (fun i hi => nFm _ (ownM_cell hi)) (fun q hq => nFm _ (List.mem_append_right _ (List.mem_map.mpr ⟨q, hq, rfl⟩))) (fun d hd h => FC (by rw [← List.mem_singleton.mp h]; exact hd))
    refine lp_list (xs := ys.map V.int) (fun i σ' H' => ∃ y3 y4 y5 y6 y7 acc, σ' = [some (.ref (A 0)), some (.ref F), some (.ref Z), y3, y4, y5, y6, y7] ∧ Gr [F] H4 H' ∧ H' F = some (.lst acc) ∧ acc.length ≤ i * 4 ∧ Tps H' acc (((ys.take i).flatMap s.at1).map wpV))
      ⟨_, _, _, _, _, [], rfl, Gr.refl _ _, hF4, Nat.zero_le _, .nil⟩ (fun i σ' H' _ ⟨_, _, _, _, _, _, _, g, _⟩ => SqL.of (g.k1 hl4 lF)) ?_ ?_
    · rintro i x _ H5 ex ⟨y3, y4, y5, y6, y7, acc, rfl, g5, hF5, al, tp5⟩
      obtain ⟨r, hr0, rfl⟩ : ∃ r, ys[i]? = some r ∧ x = .int r := by
        rw [List.getElem?_map] at ex
        cases e : ys[i]? with
        | none => rw [e] at ex; cases ex
        | some r => rw [e] at ex; exact ⟨r, rfl, (Option.some.inj ex).symm⟩
      have il := (List.getElem?_eq_some_iff.mp hr0).1
      obtain ⟨tb', htb'⟩ := getA_some (ym r (List.mem_of_getElem? hr0))
      obtain ⟨tb, gtb, sam, nd1, nd2⟩ := mt.tab htb'
      obtain ⟨z, hz⟩ := wo.w.w1 r tb' htb'
      have lasts := wo.w.lasts htb'
      have okeys : ∀ q ∈ tb', KeyOk q.1 := fun q hq => by
        obtain ⟨e, he, e1⟩ := wo.w.w2 _ (getA_in htb') q hq
        rw [← e1]
        exact wo.k e he
      have few := key_few nd2 okeys
      have pm := sameA_perm nd1 nd2 sam
      have ma5 := mkeep g5
      obtain ⟨ta, _, hta, tg⟩ := ma5.tget gtb
      have esnoc : (ys.take (i + 1)).flatMap s.at1 = (ys.take i).flatMap s.at1 ++ s.at1 r := by rw [take_snoc hr0, List.flatMap_append, List.flatMap_cons, List.flatMap_nil, List.append_nil]
      rw [esnoc]
      have ea1 : s.at1 r = (((ordS tb').map (·.1)).filter fun k => s.isd k z).map fun k => (r, k) := by
        unfold LS.at1 LS.wrongs LS.tab
        rw [htb', hz]
        rfl
      rw [ea1]
      walk_at "w"
      refine ⟨A 0, _, rfl, ma5.d5, ?_⟩
      walk_at "w"
      refine ⟨A 5, .ref ta, rfl, tg, ?_⟩
      walk_at "w"
      refine ⟨ta, tabV tb, tb.map (·.1), rfl, .inl hta, ?_, ?_, fun ks kl hp hs nkl => ?_⟩
      · unfold tabV
        rw [List.map_map, List.map_map]
        rfl
      · rw [List.length_map, pm.length_eq]
        omega
      obtain rfl := keys_one hs hp
      rw [ordS_same nd1 nd2 sam]
      have g6 : Gr [] H5 (upd H5 kl (.lst (((ordS tb').map (·.1)).map V.str))) := Gr.new nkl
      have hk6 : (upd H5 kl (.lst (((ordS tb').map (·.1)).map V.str))) kl = some (.lst (((ordS tb').map (·.1)).map V.str)) := upd_same
      have kF : kl ≠ F := fun e => by rw [e, hF5] at nkl; cases nkl
      have hF6 := g6.k0 hF5
      have tp6 := tp5.gr g6
      have g46 := g5.trans (g6.mono (by simp))
      generalize (upd H5 kl (.lst (((ordS tb').map (·.1)).map V.str))) = H6 at *
      have kml : ∀ key ∈ (ordS tb').map (·.1), ∃ n, s.last key = some n := fun key hk => by
        obtain ⟨q, hq, rfl⟩ := List.mem_map.mp hk
        exact lasts q ((ordS_perm _).mem_iff.mp hq)
      have kll : ((ordS tb').map (·.1)).length ≤ 4 := by rw [List.length_map, (ordS_perm _).length_eq]; exact few
      generalize (ordS tb').map (·.1) = ks at *
      refine ⟨kl, rfl, ⟨_, SqL.of hk6⟩, ?_⟩
      refine lp_list (xs := ks.map V.str) (fun j σ' H' => ∃ y4 y7 ac, σ' = [some (.ref (A 0)), some (.ref F), some (.ref Z), y3, y4, y5, some (.int r), y7] ∧ Gr [F] H6 H' ∧ H' F = some (.lst ac) ∧ ac.length ≤ i * 4 + j ∧ Tps H' ac ((((ys.take i).flatMap s.at1) ++ ((ks.take j).filter fun k => s.isd k z).map fun k => (r, k)).map wpV))
        ⟨_, _, acc, rfl, Gr.refl _ _, hF6, al, by rw [List.take_zero, List.filter_nil, List.map_nil, List.append_nil]; exact tp6⟩ (fun j σ' H' _ ⟨_, _, _, _, g, _⟩ => SqL.of (g.k1 hk6 kF)) ?_ ?_
      · rintro j x _ H7 ex ⟨y4, y7, ac, rfl, g7, hF7, acl, tp7⟩
        obtain ⟨key, hk0, rfl⟩ : ∃ k, ks[j]? = some k ∧ x = .str k := by
          rw [List.getElem?_map] at ex
          cases e : ks[j]? with
          | none => rw [e] at ex; cases ex
          | some k => rw [e] at ex; exact ⟨k, rfl, (Option.some.inj ex).symm⟩
        have jl := (List.getElem?_eq_some_iff.mp hk0).1
        obtain ⟨n, hn⟩ := kml key (List.mem_of_getElem? hk0)
        have nl : n < s.ents.length := (lastN_iff.mp hn).1
        have g47 := g46.trans g7
        have ma7 := mkeep g47
        have hZ7 := g47.k1 hZ4 ZF
        have dg := tab_get hZ7 key
        rw [iff key, show lastN s.ents key s.ents.length = some n from hn] at dg
        obtain ⟨rs7, c, r1, r2, r3⟩ := ma7.row mt.r nl
        have sg := seats_get ma7.f4 r
        rw [mt.se, hz] at sg
        have eisd : s.isd key z = (decide ((n : Int) < z) && (enAt s.ents n).2.isNone) := by
          unfold LS.isd
          rw [hn]
        have no : s.isd key z = false → Tps H7 ac ((((ys.take i).flatMap s.at1) ++ ((ks.take (j + 1)).filter fun k => s.isd k z).map fun k => (r, k)).map wpV) := fun h => by
          rw [take_snoc hk0, List.filter_append, List.filter_cons, if_neg (by rw [h]; decide), List.filter_nil, List.append_nil]
          exact tp7
        walk_at "w"
        refine ⟨Z, .int (n : Nat), rfl, dg, ?_⟩
        walk_at "w"
        refine WK.w_if ?_
        refine WK.w_and ?_
        walk_at "w"
        refine ⟨A 0, _, rfl, ma7.d1, ?_⟩
        walk_at "w"
        refine ⟨A 1, rs7, _, .ref c, rfl, rfl, SqL.of r1, WK.at_ofG (j := n) (by omega) r2, ?_⟩
        walk_at "w"
        cases eo : (enAt s.ents n).2 with
        | some v =>
          rw [eo] at eisd
          have ef : s.isd key z = false := by rw [eisd]; exact Bool.and_false _
          refine WK.w_ifN (by simp [optV]) ?_
          refine WK.w_ifN (by decide) ?_
          walk_at "w"
          exact ⟨_, _, ac, rfl, g7, hF7, by omega, no ef⟩
        | none =>
          rw [eo] at eisd
          refine WK.w_ifP rfl ?_
          walk_at "w"
          refine ⟨A 0, _, rfl, ma7.d4, ?_⟩
          walk_at "w"
          refine ⟨A 4, .int z, rfl, sg, ?_⟩
          walk_at "w"
          refine WK.w_2 (fun h1 => ?_) (fun h1 => ?_)
          · have et : s.isd key z = true := by rw [eisd, decide_eq_true h1]; rfl
            walk_at "w"
            refine WK.w_tyL hF7 ?_
            walk_at "w"
            refine ⟨WK.sz, fun t nt => ?_⟩
            have g8 : Gr [] H7 (upd H7 t (.tup [.int r, .str key])) := Gr.new nt
            have ht8 : (upd H7 t (.tup [.int r, .str key])) t = some (.tup [.int r, .str key]) := upd_same
            have hF8 := g8.k0 hF7
            have tp8 := tp7.gr g8
            generalize (upd H7 t (.tup [.int r, .str key])) = H8 at *
            walk_at "w"
            refine ⟨F, ac, _, rfl, rfl, hF8, WK.sz' (by omega), ?_⟩
            have g9 : Gr [F] H8 (upd H8 F (.lst (ac ++ [.ref t]))) := Gr.mutL hF8 (by simp)
            refine ⟨_, _, _, rfl, (g7.trans (g8.mono (by simp))).trans g9, upd_same, by rw [List.length_append, List.length_singleton]; omega, ?_⟩
            rw [take_snoc hk0, List.filter_append, List.filter_cons, if_pos et, List.filter_nil, List.map_append (l₁ := (ks.take j).filter fun k => s.isd k z), ← List.append_assoc, List.map_append]
            exact pr_append (tp8.gr g9) (.cons ⟨t, rfl, g9.tup _ _ ht8⟩ .nil)
          · have ef : s.isd key z = false := by rw [eisd, decide_eq_false h1]; rfl
            walk_at "w"
            exact ⟨_, _, ac, rfl, g7, hF7, by omega, no ef⟩
      · rintro _ H7 ⟨y4, y7, ac, rfl, g7, hF7, acl, tp7⟩
        rw [List.length_map, List.take_length] at tp7
        rw [List.length_map] at acl
        exact ⟨_, _, _, _, _, ac, rfl, g46.trans g7, hF7, by omega, tp7⟩
    · rintro _ H5 ⟨y3, y4, y5, y6, y7, acc, rfl, g5, hF5, al, tp5⟩
      rw [List.length_map, List.take_length] at tp5
      walk_at "w"
      exact q F acc H5 (g04.own g5 nF) nF hF5 tp5

end
end PK
namespace PK
open PySem L2
section
variable {P : Program} {w : World} {K : PySem.W.Frag} {mg : Str → Option Value} {base : Heap}
theorem atom_fine {n : Nat} : ∀ {x : V}, Atom x → Fine n (atomD x)
  | .non, _ => by cases n <;> trivial
  | .bl _, _ => by cases n <;> trivial
  | .int _, _ => by cases n <;> trivial
  | .str _, h => by cases n <;> exact h
theorem tp_fine {n : Nat} {xs : List V} (h : ∀ x ∈ xs, Atom x) (l : xs.length ≤ 1000) : Fine (n + 1) (tpD xs) :=
  ⟨by rw [List.length_map]; exact l, fun d hd => by
    obtain ⟨x, hx, rfl⟩ := List.mem_map.mp hd
    exact atom_fine (h x hx)⟩
/-- a list of tuples of atoms, as data -/
def lwD (ys : List (List V)) : PyData := .list (ys.map tpD)
theorem lw_fine {ys : List (List V)} (h : ∀ y ∈ ys, ∀ x ∈ y, Atom x) (w : ∀ y ∈ ys, y.length ≤ 1000) (l : ys.length ≤ 1000) : Fine 2 (lwD ys) :=
  ⟨by rw [List.length_map]; exact l, fun d hd => by
    obtain ⟨y, hy, rfl⟩ := List.mem_map.mp hd
    exact tp_fine (h y hy) (w y hy)⟩
theorem lw_dp {H : Hp} {a : Addr} {xs : List V} {ys : List (List V)} (ha : H a = some (.lst xs)) (ht : Tps H xs ys) (h : ∀ y ∈ ys, ∀ x ∈ y, Atom x) : Dp K H (.ref a) (lwD ys) := .lst (SqL.of ha) (tps_dp ht h)

end
end PK
namespace PK
open PySem L2
section
variable {P : Program} {w : World} {K : PySem.W.Frag} {mg : Str → Option Value} {base : Heap}
theorem wr_fin {es : List Ev} {bs : List (Int × Int)} {h : Int} {gs : List (Str × Int)} (va : Valid .nil es) (ok : SwOk es bs) (eo : ∀ e ∈ es, e.ok) (l90 : es.length ≤ 90) (g0 : ∀ g ∈ gs, 0 ≤ g.2) : WrOk (finL es h bs gs) := by
  obtain ⟨f, en, w⟩ := ind_fin (P := fun _ s => (∀ x ∈ s.ents, KeyOk x.1) ∧ s.Well) (h := h) (gs := gs) ok ⟨(by intro _ z; cases z), ⟨fun r tb e => (by cases e), (by intro _ z; cases z), (by intro _ z; cases z)⟩⟩ (fun k s e he _ ⟨en, w⟩ => ⟨by
    have app : ∀ (k : Str) (v : Option Int), KeyOk k → ∀ x ∈ s.ents ++ [(k, v)], KeyOk x.1 := fun k v hk x hx => by
      rcases List.mem_append.mp hx with z | z
      · exact en x z
      · rw [List.mem_singleton.mp z]
        exact hk
    have eok := eo e (List.mem_of_getElem? he)
    cases e with
    | put k v => exact app k _ eok.1
    | drop k => exact app k _ eok
    | _ => exact en, w.does e⟩) (fun k s u _ _ _ ⟨en, w⟩ => ⟨en, w.same rfl rfl rfl rfl⟩)
  have z := ok_end g0 (runs_of va ok h gs)
  have t7 := tabs_few (h := h) (gs := gs) va ok eo
  exact ⟨w, en, Nat.le_trans z.en (by omega), by omega⟩
/-- each table has few keys -/
theorem tab_few {m : MS} {s : LS} (mt : Mt m s) (wo : WrOk s) {r : Int} {tb : List (Str × Int)} (e : getA s.tabs r = some tb) : tb.length ≤ 4 := by
  obtain ⟨_, _, _, _, nd⟩ := mt.tab e
  refine key_few nd fun q hq => ?_
  obtain ⟨x, hx, e2⟩ := wo.w.w2 _ (getA_in e) q hq
  rw [← e2]
  exact wo.k x hx
theorem flat_le {α β : Type} {f : α → List β} {m : Nat} : ∀ {l : List α}, (∀ x ∈ l, (f x).length ≤ m) → (l.flatMap f).length ≤ l.length * m
  | [], _ => by rw [List.flatMap_nil]; exact Nat.zero_le _
  | x :: l, h => by
    rw [List.flatMap_cons, List.length_append, List.length_cons, Nat.succ_mul]
    have z1 := h x List.mem_cons_self
    have z2 := flat_le (f := f) (m := m) (l := l) fun y hy => h y (List.mem_cons_of_mem _ hy)
    omega
theorem wps_len {m : MS} {s : LS} (mt : Mt m s) (wo : WrOk s) : s.wps.length ≤ 240 := by
  unfold LS.wps
  have z := flat_le (f := s.at1) (m := 4) (l := srtI (s.tabs.map (·.1))) fun r hr => ?_
  · rw [(srtI_perm _).length_eq, List.length_map] at z
    have := wo.t
    omega
  · unfold LS.at1 LS.wrongs LS.tab
    rw [List.length_map]
    refine Nat.le_trans (List.length_filter_le _ _) ?_
    rw [List.length_map]
    refine Nat.le_trans (Nat.le_of_eq (ordS_perm _).length_eq) ?_
    cases e : getA s.tabs r with
    | none => exact Nat.zero_le _
    | some tb => exact tab_few mt wo e
theorem wp_atom {s : LS} (wo : WrOk s) : ∀ y ∈ s.wps.map wpV, ∀ x ∈ y, Atom x := fun y hy x hx => by
  obtain ⟨⟨r, k⟩, hz, rfl⟩ := List.mem_map.mp hy
  rcases List.mem_cons.mp hx with rfl | hx
  · trivial
  obtain rfl := List.mem_singleton.mp hx
  refine keyOk_str ?_
  obtain ⟨_, h2⟩ := mem_wps.mp hz
  obtain ⟨⟨v, hv⟩, _⟩ := mem_wrongs.mp h2
  cases e : getA s.tabs r with
  | none => rw [e] at hv; cases hv
  | some tb =>
    rw [e] at hv
    obtain ⟨x, hx, e2⟩ := wo.w.w2 _ (getA_in e) _ (getA_in hv)
    dsimp only at e2 ⊢
    rw [← e2]
    exact wo.k x hx
theorem wp_wide {W : List (Int × Str)} : ∀ y ∈ W.map wpV, y.length ≤ 1000 := by
  intro y hy
  obtain ⟨b, _, rfl⟩ := List.mem_map.mp hy
  simp
def wpD (s : LS) : PyData := lwD (s.wps.map wpV)
theorem wp_fine {m : MS} {s : LS} (mt : Mt m s) (wo : WrOk s) : Fine 2 (wpD s) := lw_fine (wp_atom wo) wp_wide (by rw [List.length_map]; have := wps_len mt wo; omega)
theorem wp_dp {s : LS} (wo : WrOk s) {H : Hp} {l : Addr} {xs : List V} (hl : H l = some (.lst xs)) (tp : Tps H xs (s.wps.map wpV)) : Dp K H (.ref l) (wpD s) := lw_dp hl tp (wp_atom wo)

end
end PK
namespace PK
open PySem L2
section
variable {P : Program} {w : World} {K : PySem.W.Frag} {mg : Str → Option Value} {base : Heap}
/-- what is told of a log in the end: there, and who is where, holds what, is wrong where -/
structure EdOk (s : LS) : Prop where
  wo : WrOk s
  ok : s.Ok 1000
  ks : s.seats.map (·.1) = s.tabs.map (·.1)
  nd : (s.tabs.map (·.1)).Nodup
  few : ∀ r tb, getA s.tabs r = some tb → tb.length ≤ 4
theorem ed_fin {es : List Ev} {bs : List (Int × Int)} {h : Int} {gs : List (Str × Int)} (va : Valid .nil es) (ok : SwOk es bs) (eo : ∀ e ∈ es, e.ok) (l90 : es.length ≤ 90) (g0 : ∀ g ∈ gs, 0 ≤ g.2) : EdOk (finL es h bs gs) := by
  obtain ⟨f, ks, nd, nt⟩ := ind_fin (P := fun _ s => s.seats.map (·.1) = s.tabs.map (·.1) ∧ (s.tabs.map (·.1)).Nodup ∧ ∀ r, NdK ((getA s.tabs r).getD [])) (h := h) (gs := gs) ok ⟨rfl, List.nodup_nil, fun _ => List.nodup_nil⟩ (fun k s e _ _ ⟨ks, nd, nt⟩ => by
    have put : ∀ (r z : Int) (tb : List (Str × Int)), NdK tb → (putA s.seats r z).map (·.1) = (putA s.tabs r tb).map (·.1) ∧ ((putA s.tabs r tb).map (·.1)).Nodup ∧ ∀ i, NdK ((getA (putA s.tabs r tb) i).getD []) := fun r z tb h => ⟨map_put ks r tb z, put_keys _ _ _ nd, fun i => by
      rw [getA_put2]
      split
      · exact h
      · exact nt i⟩
    cases e with
    | join r => exact put r 0 [] List.nodup_nil
    | read r u => exact put r u _ (steps_nd (nt r))
    | load r c => exact put r _ _ (mrg_nd List.nodup_nil)
    | _ => exact ⟨ks, nd, nt⟩) (fun k s u _ _ _ h => h)
  have wo := wr_fin (h := h) (gs := gs) va ok eo l90 g0
  refine ⟨wo, (ok_end g0 (runs_of va ok h gs)).up (by omega), ks, nd, fun r tb e => ?_⟩
  have nr := nt r
  rw [e] at nr
  refine key_few nr fun q hq => ?_
  obtain ⟨x, hx, e2⟩ := wo.w.w2 _ (getA_in e) q hq
  rw [← e2]
  exact wo.k x hx
def LS.at2 (s : LS) (r : Int) : Int := (getA s.seats r).getD 0
def bitD (s : LS) (r : Int) : PyData := .tuple [.int r, .int (s.at2 r), lwD ((s.tab r).map prV), .list ((s.wrongs r (s.at2 r)).map PyData.str)]
def endD (s : LS) : PyData := .list (lwD (s.there.map s.row) :: (srtI (s.tabs.map (·.1))).map (bitD s))
theorem there_lt {s : LS} {i : Nat} (h : i ∈ s.there) : i < s.ents.length := List.mem_range.mp (List.mem_filter.mp h).1
theorem row_atom {s : LS} (wo : WrOk s) : ∀ y ∈ s.there.map s.row, ∀ x ∈ y, Atom x := fun y hy x hx => by
  obtain ⟨i, hi, rfl⟩ := List.mem_map.mp hy
  have il := there_lt hi
  have hk := wo.k _ (List.getElem_mem il)
  have eg : s.ents.getD i ("", none) = s.ents[i] := by rw [List.getD_eq_getElem?_getD, List.getElem?_eq_getElem il]; rfl
  unfold LS.row at hx
  rw [eg] at hx
  simp only [List.mem_cons, List.not_mem_nil, or_false] at hx
  rcases hx with rfl | rfl | rfl
  · trivial
  · exact keyOk_str hk
  · cases (s.ents[i]).2 <;> trivial
theorem row_wide {s : LS} {l : List Nat} : ∀ y ∈ l.map s.row, y.length ≤ 1000 := by
  intro y hy
  obtain ⟨i, _, rfl⟩ := List.mem_map.mp hy
  exact Nat.le_of_ble_eq_true rfl
theorem tab_key {s : LS} (wo : WrOk s) {r : Int} {q : Str × Int} (h : q ∈ s.tab r) : KeyOk q.1 := by
  have h := (ordS_perm _).mem_iff.mp h
  cases e : getA s.tabs r with
  | none => rw [e] at h; cases h
  | some tb =>
    rw [e] at h
    obtain ⟨x, hx, e2⟩ := wo.w.w2 _ (getA_in e) _ h
    rw [← e2]
    exact wo.k x hx
theorem tab_atom {s : LS} (wo : WrOk s) {r : Int} : ∀ y ∈ (s.tab r).map prV, ∀ x ∈ y, Atom x := fun y hy x hx => by
  obtain ⟨q, hq, rfl⟩ := List.mem_map.mp hy
  simp only [List.mem_cons, List.not_mem_nil, or_false] at hx
  rcases hx with rfl | rfl
  · exact keyOk_str (tab_key wo hq)
  · trivial
theorem tab_wide {l : List (Str × Int)} : ∀ y ∈ l.map prV, y.length ≤ 1000 := by
  intro y hy
  obtain ⟨i, _, rfl⟩ := List.mem_map.mp hy
  exact Nat.le_of_ble_eq_true rfl
theorem tab_len {s : LS} (eo : EdOk s) (r : Int) : (s.tab r).length ≤ 4 := by
  unfold LS.tab
  rw [(ordS_perm _).length_eq]
  cases e : getA s.tabs r with
  | none => exact Nat.zero_le _
  | some tb => exact eo.few r tb e
theorem wrongs_len {s : LS} (eo : EdOk s) (r z : Int) : (s.wrongs r z).length ≤ 4 := by
  unfold LS.wrongs
  refine Nat.le_trans (List.length_filter_le _ _) ?_
  rw [List.length_map]
  exact tab_len eo r
theorem wrongs_key {s : LS} (wo : WrOk s) {r z : Int} {k : Str} (h : k ∈ s.wrongs r z) : KeyOk k := by
  obtain ⟨q, hq, rfl⟩ := List.mem_map.mp (List.mem_filter.mp h).1
  exact tab_key wo hq
theorem bit_fine {s : LS} (eo : EdOk s) (r : Int) : Fine 3 (bitD s r) := by
  refine ⟨Nat.le_of_ble_eq_true rfl, fun d hd => ?_⟩
  simp only [List.mem_cons, List.not_mem_nil, or_false] at hd
  rcases hd with rfl | rfl | rfl | rfl
  · trivial
  · trivial
  · exact lw_fine (tab_atom eo.wo) tab_wide (by rw [List.length_map]; have := tab_len eo r; omega)
  · refine ⟨by rw [List.length_map]; have := wrongs_len eo r (s.at2 r); omega, fun d hd => ?_⟩
    obtain ⟨k, hk, rfl⟩ := List.mem_map.mp hd
    exact keyOk_str (wrongs_key eo.wo hk)
theorem end_fine {s : LS} (eo : EdOk s) : Fine 4 (endD s) := by
  have wo := eo.wo
  refine ⟨?_, fun d hd => ?_⟩
  · rw [List.length_cons, List.length_map, (srtI_perm _).length_eq, List.length_map]
    have := wo.t
    omega
  · rcases List.mem_cons.mp hd with rfl | hd
    · refine (lw_fine (row_atom wo) row_wide ?_).up
      rw [List.length_map]
      have : s.there.length ≤ s.ents.length := Nat.le_trans (List.length_filter_le _ _) (by rw [List.length_range]; exact Nat.le_refl _)
      have := wo.l
      omega
    · obtain ⟨r, _, rfl⟩ := List.mem_map.mp hd
      exact bit_fine eo r
/-- a row of the end, told of a reader -/
def EdRow (M : List Addr) (H : Hp) (s : LS) (x : V) (r : Int) : Prop := ∃ t tl wl xs, x = .ref t ∧ H t = some (.tup [.int r, .int (s.at2 r), .ref tl, .ref wl]) ∧ tl ∉ M ∧ wl ∉ M ∧ H tl = some (.lst xs) ∧ Tps H xs ((s.tab r).map prV) ∧ H wl = some (.lst ((s.wrongs r (s.at2 r)).map V.str))
theorem EdRow.keep {M : List Addr} {H H' : Hp} {s : LS} {x : V} {r : Int} (h : EdRow M H s x r) (g : Gr M H H') : EdRow M H' s x r := by
  obtain ⟨t, tl, wl, xs, e, h1, n1, n2, h2, h3, h4⟩ := h
  exact ⟨t, tl, wl, xs, e, g.tup _ _ h1, n1, n2, g.keep _ _ n1 h2, h3.gr g, g.keep _ _ n2 h4⟩
abbrev EdRows (M : List Addr) (H : Hp) (s : LS) : List V → List Int → Prop := Paired fun x r => EdRow M H s x r
theorem EdRows.keep {M : List Addr} {H H' : Hp} {s : LS} {xs : List V} {rs : List Int} (h : EdRows M H s xs rs) (g : Gr M H H') : EdRows M H' s xs rs := Paired.mono (fun _ _ z => EdRow.keep z g) h
theorem strs_dp {H : Hp} : ∀ {ks : List Str}, DpAll K H (ks.map V.str) (ks.map PyData.str)
  | [] => .nil
  | k :: ks => .cons (.str k) strs_dp
theorem edrows_dp {M : List Addr} {H : Hp} {s : LS} (wo : WrOk s) : ∀ {xs : List V} {rs : List Int}, EdRows M H s xs rs → DpAll K H xs (rs.map (bitD s))
  | _, _, .nil => .nil
  | _, _, .cons ⟨t, tl, wl, xs, e, h1, n1, n2, h2, h3, h4⟩ h => by
    subst e
    exact .cons (.tup (SqT.of h1) (.cons (.int _) (.cons (.int _) (.cons (lw_dp h2 h3 (tab_atom wo)) (.cons (.lst (SqL.of h4) strs_dp) .nil))))) (edrows_dp wo h)
theorem ed_seat {s : LS} (eo : EdOk s) {r : Int} (h : r ∈ s.tabs.map (·.1)) : ∃ z tb, getA s.seats r = some z ∧ getA s.tabs r = some tb ∧ s.at2 r = z := by
  obtain ⟨tb, h1⟩ := getA_some h
  rw [← eo.ks] at h
  obtain ⟨z, h2⟩ := getA_some h
  exact ⟨z, tb, h2, h1, by unfold LS.at2; rw [h2]; rfl⟩
/-- who is wrong where, of one reader -/
theorem wps_of {s : LS} (eo : EdOk s) {r : Int} (h : r ∈ s.tabs.map (·.1)) : (s.wps.filter fun y => decide (y.1 = r)).map (·.2) = s.wrongs r (s.at2 r) := by
  have go : ∀ {l : List Int}, l.Nodup → r ∈ l → ((l.flatMap s.at1).filter fun y => decide (y.1 = r)).map (·.2) = s.wrongs r (s.at2 r) := by
    have no : ∀ {l : List Int}, r ∉ l → (l.flatMap s.at1).filter (fun y => decide (y.1 = r)) = [] := fun {l} n => List.filter_eq_nil_iff.mpr fun y hy => by
      obtain ⟨i, hi, hk⟩ := List.mem_flatMap.mp hy
      obtain ⟨k, _, rfl⟩ := List.mem_map.mp hk
      intro z
      have z : i = r := of_decide_eq_true z
      exact n (by rw [← z]; exact hi)
    intro l
    induction l with
    | nil => intro _ h; cases h
    | cons i l ih =>
      intro nd hr
      obtain ⟨n1, n2⟩ := List.nodup_cons.mp nd
      rw [List.flatMap_cons, List.filter_append, List.map_append]
      by_cases e : i = r
      · subst e
        rw [no n1, List.map_nil, List.append_nil]
        have e2 : (s.at1 i).filter (fun y => decide (y.1 = i)) = s.at1 i := List.filter_eq_self.mpr fun y hy => by
          obtain ⟨k, _, rfl⟩ := List.mem_map.mp hy
          exact decide_eq_true rfl
        rw [e2]
        unfold LS.at1 LS.at2
        rw [List.map_map]
        show (s.wrongs i ((getA s.seats i).getD 0)).map id = _
        rw [List.map_id]
      · have e2 : (s.at1 i).filter (fun y => decide (y.1 = r)) = [] := List.filter_eq_nil_iff.mpr fun y hy => by
          obtain ⟨k, _, rfl⟩ := List.mem_map.mp hy
          intro z
          exact e (of_decide_eq_true z)
        rw [e2, List.map_nil, List.nil_append]
        exact ih n2 ((List.mem_cons.mp hr).resolve_left fun z => e z.symm)
  unfold LS.wps
  exact go ((srtI_perm _).nodup_iff.mpr eo.nd) ((srtI_perm _).mem_iff.mpr h)

end
end PK
namespace PK
open PySem L2
section
variable {P : Program} {w : World} {K : PySem.W.Frag} {mg : Str → Option Value} {base : Heap}
abbrev s_law_end : Stmt := topS 33
abbrev N_law_end : List Str := ["_law_log_so", "_law_p"]
abbrev ps_law_end : List Str := ["_law_log_so"]
theorem sc_law_end : FnScope N_law_end ps_law_end (defScope s_law_end) := ⟨rfl, rfl, rfl, by decide +kernel, rfl, by decide +kernel, by decide +kernel⟩
def spEndL (K : PySem.W.Frag) (C : Addr) : Sp := fun vs H Q _ => ∃ (p : Addr) (A : LA) (L : List (Int × Addr)) (s : LS), vs = [.ref p] ∧ LogAt C H p A L s ∧ EdOk s ∧ ∀ y H', Gr [] H H' → Dp K H' y (endD s) → Q y H'
theorem has_endl {C : Addr} (D : Df K mg "_law_end" s_law_end ps_law_end) (T : Txt mg) (W : LogC K C) (G_Log_there : HasM P w K mg base C 1 "there" ps_Log_there (spThere C)) (G_Log_readers : HasM P w K mg base C 1 "readers" ps_Log_readers (spReaders C)) (G_Log_seat : HasM P w K mg base C 2 "seat" ps_Log_seat (spLogSeat C)) (G_Log_table : HasM P w K mg base C 2 "table" ps_Log_table (spLogTable C)) (G_Log_wrong : HasM P w K mg base C 3 "wrong" ps_Log_wrong (spLogWrong C)) :
    Has P w K mg base 4 "_law_end" ps_law_end (spEndL K C) := Has.mk' D fun f fd F => by
  have CL_Log := W.cl
  refine F.ok sc_law_end (fun vs H Q E h => ?_) (fun cdv A' outer s' H vs Q E hr h => ?_)
  · obtain ⟨p, A, L, s, rfl, _⟩ := h
    rfl
  · obtain ⟨p, A, L, s, rfl, l, eo, q⟩ := h
    refine ⟨_, (pss_one (ps_ret (pe_op op_cat (pe_lst (pa_cons (pe_meth0H (pv 0) G_Log_there CL_Log (hr.mono (by decide))) pa_nil)) (pe_lc (own := [("_law_p", 1)]) (g := gName 1)  rfl sc_law_end.nd (pi_list (pe_meth0H (pv 0) G_Log_readers CL_Log (hr.mono (by decide)))) (blkOk_by (own := [("_law_p", 1)]) (N := N_law_end) (sc := defScope s_law_end) (by decide +kernel)) (fun _ _ _ _ _ => pg_name (i := 1) sc_law_end.nd rfl (Or.inl rfl)) (fun _ _ _ _ _ => pts_nil) (fun _ _ _ _ _ => (pe_tup (pa_cons (pv 1) (pa_cons (pe_methH (pv 0) G_Log_seat CL_Log (hr.mono (by decide)) (pa_cons (pv 1) pa_nil)) (pa_cons (pe_methH (pv 0) G_Log_table CL_Log (hr.mono (by decide)) (pa_cons (pv 1) pa_nil)) (pa_cons (pe_methH (pv 0) G_Log_wrong CL_Log (hr.mono (by decide)) (pa_cons (pv 1) pa_nil)) pa_nil)))))))))), ?_⟩
    have wo := eo.wo
    obtain ⟨dx, ho⟩ := id l.ob
    walk_at "w"
    refine WK.w_meth rfl ho lF_none ?_
    walk_at "w"
    refine ⟨p, A, L, s, rfl, l, eo.ok, fun l1 xs1 H1 g1 n1 h1 t1 => ?_⟩
    walk_at "w"
    refine ⟨WK.sz, fun L0 nL0 => ?_⟩
    have g2 : Gr [] H1 (upd H1 L0 (.lst [.ref l1])) := Gr.new nL0
    have hL0 : (upd H1 L0 (.lst [.ref l1])) L0 = some (.lst [.ref l1]) := upd_same
    have h12 := g2.k0 h1
    have t12 := t1.gr g2
    have g02 := g1.trans g2
    generalize (upd H1 L0 (.lst [.ref l1])) = H2 at *
    have l2 := l.k0 g02
    obtain ⟨dx2, ho2⟩ := id l2.ob
    walk_at "w"
    refine WK.w_meth rfl ho2 lF_none ?_
    walk_at "w"
    refine ⟨p, A, L, s, rfl, l2, wo.t, fun R ys H3 g3 nR hR yp yo => ?_⟩
    obtain rfl := srtI_one yp yo
    have ym : ∀ r ∈ srtI (s.tabs.map (·.1)), r ∈ s.tabs.map (·.1) := fun r hr => (srtI_perm _).mem_iff.mp hr
    have yl : (srtI (s.tabs.map (·.1))).length ≤ 60 := by rw [(srtI_perm _).length_eq, List.length_map]; exact wo.t
    have eE : endD s = .list (lwD (s.there.map s.row) :: (srtI (s.tabs.map (·.1))).map (bitD s)) := rfl
    rw [eE] at q
    clear yp yo eE
    generalize srtI (s.tabs.map (·.1)) = ys at *
    have l3 := l2.k0 g3
    have h13 := g3.k0 h12
    have t13 := t12.gr g3
    have hL3 := g3.k0 hL0
    have g03 := g02.trans g3
    clear l2 ho2 h12 t12 hL0 g02 g3 l ho
    refine ⟨R, rfl, ⟨_, SqL.of hR⟩, ?_⟩
    refine lc_go (walk_list (K := K) (a := R) (xs := ys.map V.int)) (fun D j acc H' => Gr [] H3 H' ∧ EdRows [D] H' s acc (ys.take j)) (fun D nD => ⟨Gr.new nD, .nil⟩) (fun D j acc H' _ ⟨g, _⟩ => SqL.of (g.k0 hR)) ?_ ?_
    · rintro D j acc x H4 H5 nD hj hD la ⟨g4, er⟩ ⟨rfl, ex⟩
      rw [List.length_map] at hj
      have ej : ys[j]? = some ys[j] := List.getElem?_eq_getElem hj
      obtain rfl : x = .int ys[j] := by
        rw [List.getElem?_map, ej] at ex
        exact (Option.some.inj ex).symm
      have hm := ym _ (List.getElem_mem hj)
      have tks := take_snoc ej
      generalize ys[j] = r at *
      obtain ⟨z, tb, hz, htb, ez⟩ := ed_seat eo hm
      have l4 := l3.k0 g4
      obtain ⟨dx4, ho4⟩ := id l4.ob
      walk_at "w"
      refine ⟨rfl, ?_⟩
      walk_at "w"
      refine WK.w_ifP rfl ?_
      walk_at "w"
      refine WK.w_meth rfl ho4 lF_none ?_
      walk_at "w"
      refine ⟨p, A, L, s, r, z, rfl, l4, hz, ?_⟩
      walk_at "w"
      refine WK.w_meth rfl ho4 lF_none ?_
      walk_at "w"
      refine ⟨p, A, L, s, r, z, tb, rfl, l4, hz, htb, fun tl xs5 H5 g5 n5 h5 t5 => ?_⟩
      have l5 := l4.k0 g5
      obtain ⟨dx5, ho5⟩ := id l5.ob
      walk_at "w"
      refine WK.w_meth rfl ho5 lF_none ?_
      walk_at "w"
      refine ⟨p, A, L, s, r, z, tb, rfl, l5, by have := wo.l; omega, hz, htb, by have := eo.few r tb htb; omega, wo.w.lasts htb, fun wl H6 g6 n6 h6 => ?_⟩
      walk_at "w"
      refine ⟨WK.sz, fun t nt => ?_⟩
      have g7 : Gr [] H6 (upd H6 t (.tup [.int r, .int z, .ref tl, .ref wl])) := Gr.new nt
      have ht7 : (upd H6 t (.tup [.int r, .int z, .ref tl, .ref wl])) t = some (.tup [.int r, .int z, .ref tl, .ref wl]) := upd_same
      have g57 := g6.trans g7
      have g47 := g5.trans g57
      have hD7 := g47.k0 hD
      have tD : tl ≠ D := fun e => by rw [e, hD] at n5; cases n5
      have wD : wl ≠ D := fun e => by rw [e, g5.k0 hD] at n6; cases n6
      generalize (upd H6 t (.tup [.int r, .int z, .ref tl, .ref wl])) = H7 at *
      have g8 : Gr [D] H7 (upd H7 D (.lst (acc ++ [.ref t]))) := Gr.mutL hD7 (by simp)
      refine lc_yes hD7 la (by omega) ⟨(g4.trans g47).own g8 nD, ?_⟩
      rw [tks]
      refine pr_append ((EdRows.keep er (g47.mono (by simp))).keep g8) (.cons ⟨t, tl, wl, xs5, rfl, ?_, by simpa using tD, by simpa using wD, g8.k1 (g57.k0 h5) tD, ((t5.gr g57).gr g8), ?_⟩ .nil)
      · rw [ez]
        exact g8.tup _ _ ht7
      · rw [ez]
        exact g8.k1 (g7.k0 h6) wD
    · rintro D acc H4 nD hD la ⟨g4, er⟩
      rw [List.length_map] at la
      rw [List.length_map, List.take_length] at er
      walk_at "w"
      refine ⟨L0, D, _, _, rfl, rfl, g4.k0 hL3, hD, Nat.le_of_lt (WK.sz' (by rw [List.length_singleton]; omega)), fun c nc => ?_⟩
      have g5 : Gr [] H4 (upd H4 c (.lst ([.ref l1] ++ acc))) := Gr.new nc
      have g45 := g4.trans g5
      exact q (.ref c) _ (g03.trans g45) (.lst (SqL.of upd_same) (.cons (lw_dp (g45.k0 h13) (t13.gr g45) (row_atom wo)) (edrows_dp wo (EdRows.keep er (g5.mono (by simp))))))

end
end PK
namespace PK
open PySem L2
section
variable {P : Program} {w : World} {K : PySem.W.Frag} {mg : Str → Option Value} {base : Heap}
abbrev s_law_own_end : Stmt := topS 34
abbrev N_law_own_end : List Str := ["_law_w", "_law_found", "_law_wrong_so", "_law_p", "_law_mine", "_law_k", "_law_row", "_law_own"]
abbrev ps_law_own_end : List Str := ["_law_w"]
theorem sc_law_own_end : FnScope N_law_own_end ps_law_own_end (defScope s_law_own_end) := ⟨rfl, rfl, rfl, by decide +kernel, rfl, by decide +kernel, by decide +kernel⟩
def spEndM (K : PySem.W.Frag) : Sp := fun vs H Q _ => ∃ (A : Nat → Addr) (m : MS) (L : List (Int × Addr)) (cd : List Addr) (hs : List V) (s : LS), vs = [.ref (A 0)] ∧ MsAt H A m L cd hs ∧ Mt m s ∧ EdOk s ∧ ∀ y H', Gr [] H H' → Dp K H' y (endD s) → Q y H'
theorem has_endm (D : Df K mg "_law_own_end" s_law_own_end ps_law_own_end) (T : Txt mg) (G_law_wrong : Has P w K mg base 1 "_law_wrong" ps_law_wrong spMWrong) : Has P w K mg base 2 "_law_own_end" ps_law_own_end (spEndM K) := Has.mk' D fun f fd F => by
  refine F.ok sc_law_own_end (fun vs H Q E h => ?_) (fun cdv A' outer s' H vs Q E hr h => ?_)
  · obtain ⟨A, m, L, cd, hs, s, rfl, _⟩ := h
    rfl
  · obtain ⟨A, m, L, cd, hs, s, rfl, ma, mt, eo, q⟩ := h
    refine ⟨_, (pss_cons (ps_set (i := 1) sc_law_own_end.nd rfl (Or.inl rfl) (pe_lst (pa_cons (pe_lc (own := [("_law_k", 5), ("_law_row", 6)]) (g := (gTup K 2 (gCons (gName 5) (gCons (gName 6) gNil))))  rfl sc_law_own_end.nd (pi_enum (by rfl) T.m_enumerate (pa_cons (pe_dget (hu_of hr) (pv 0) pe_str (fun _ _ => rfl)) pa_nil)) (blkOk_by (own := [("_law_k", 5), ("_law_row", 6)]) (N := N_law_own_end) (sc := defScope s_law_own_end) (by decide +kernel)) (fun _ _ _ _ _ => (pg_tupK (K := K) rfl (pgs_cons (pg_name (i := 5) sc_law_own_end.nd rfl (Or.inl rfl)) (pgs_cons (pg_name (i := 6) sc_law_own_end.nd rfl (Or.inl rfl)) pgs_nil)))) (fun _ _ _ _ _ => pts_one (pt_cmp (pc_dnotin (hu_of hr) (pv 5) (pe_dget (hu_of hr) (pv 0) pe_str (fun _ _ => rfl))))) (fun _ _ _ _ _ => (pe_op (op_catAK (K := K)) (pe_tup (pa_cons (pv 5) pa_nil)) (pv 6)))) pa_nil)))
(pss_cons (ps_set (i := 2) sc_law_own_end.nd rfl (Or.inl rfl) (pe_callH G_law_wrong (hr.mono (by decide)) (by rfl) (pa_cons (pv 0) pa_nil)))
(pss_cons (ps_for PassesOwn.never rfl (pi_list (pe_callB (call_sortedDI rfl) (by rfl) T.m_sorted (by decide +kernel) (pa_cons (pe_dget (hu_of hr) (pv 0) pe_str (fun _ _ => rfl)) pa_nil))) (pg_name (i := 3) sc_law_own_end.nd rfl (Or.inr rfl))
  (pss_cons (ps_setLc (i := 4) (own := [("_law_own", 7)]) (g := gName 7)  rfl sc_law_own_end.nd rfl rfl (sw_true rfl rfl rfl (by decide +kernel)) (pi_list (pv 2)) (blkOk_by (own := [("_law_own", 7)]) (N := N_law_own_end) (sc := defScope s_law_own_end) (by decide +kernel)) (fun _ _ _ _ _ => pg_name (i := 7) sc_law_own_end.nd rfl (Or.inl rfl)) (fun _ _ _ _ _ => pts_one (pt_cmpR op_eq (pe_ix (ix_tupK (K := K)) (pv 7) pe_int (fun _ _ => rfl)) (pv 3) (nomark _))) (fun _ _ _ _ _ => (pe_ix (ix_tupK (K := K)) (pv 7) pe_int (fun _ _ => rfl))))
  (pss_one (ps_expr (pe_bm PySem.F.plainAttrs_list PySem.F.slot_list_append PySem.F.type_list_append mt_append (pv 1) (pa_cons (pe_tup (pa_cons (pv 3) (pa_cons (pe_dget (hu_of hr) (pe_dget (hu_of hr) (pv 0) pe_str (fun _ _ => rfl)) (pv 3) (fun _ _ => rfl)) (pa_cons (pe_callB (cr_sortedX rfl) (by rfl) T.m_sorted (by decide +kernel) (pa_cons (pe_bm0 PySem.F.plainAttrs_dict PySem.F.slot_dict_items PySem.F.type_dict_items mt_itemsX (pe_dget (hu_of hr) (pe_dget (hu_of hr) (pv 0) pe_str (fun _ _ => rfl)) (pv 3) (fun _ _ => rfl))) pa_nil)) (pa_cons (pv 4) pa_nil))))) pa_nil))))))
(pss_one (ps_ret (pv 1)))))), ?_⟩
    have wo := eo.wo
    have el := wo.l
    obtain ⟨rs, r1, r2⟩ := id ma.f1
    have rl : rs.length = s.ents.length := by rw [r2.length, List.length_map, mt.r]
    walk_at "w"
    refine w_enum ?_
    walk_at "w"
    refine ⟨A 0, _, rfl, ma.d1, ?_⟩
    walk_at "w"
    refine ⟨A 1, rs, rfl, SqL.of r1, ?_⟩
    refine lc_go (walk_enum (K := K) (a := A 1) (xs := rs)) (fun D j acc H' => Gr [] H H' ∧ Tps H' acc ((s.here j).map s.row)) (fun D nD => ⟨Gr.new nD, .nil⟩) (fun D j acc H' _ ⟨g, _⟩ => SqL.of (g.k0 r1)) ?_ ?_
    · rintro D j acc x H2 H3 nD hj hD la ⟨g2, tp2⟩ ⟨tt', v1, v2, rfl, nt, rfl, e1, e2⟩
      cases e1
      rw [rl] at hj
      obtain ⟨rw2, e3, c, rfl, hc⟩ := pr_get r2 e2
      have ee : rw2 = rwV (enAt s.ents j) := by
        rw [List.getElem?_map, mt.r, List.getElem?_eq_getElem hj] at e3
        unfold enAt
        rw [List.getD_eq_getElem?_getD, List.getElem?_eq_getElem hj]
        exact (Option.some.inj e3).symm
      subst ee
      have g3 : Gr [] H2 (upd H2 tt' (.tup [.int (j : Nat), .ref c])) := Gr.new nt
      have ht3 : (upd H2 tt' (.tup [.int (j : Nat), .ref c])) tt' = some (.tup [.int (j : Nat), .ref c]) := upd_same
      have g03 := g2.trans g3
      have hD3 := g3.k0 hD
      have tp3 := tp2.gr g3
      generalize (upd H2 tt' (.tup [.int (j : Nat), .ref c])) = H3 at *
      have hc3 := g03.tup _ _ hc
      have ma3 := ma.k0 g03
      have ggn := gone_get ma3.f2 ((j : Nat) : Int)
      have mg' := mt.g j hj
      walk_at "w"
      refine ⟨rfl, ?_⟩
      walk_at "w"
      refine ⟨A 0, _, rfl, ma3.d2, ?_⟩
      refine ⟨A 2, _, rfl, ggn, ?_⟩
      refine ⟨_, rfl, ?_⟩
      cases hgk : getA m.gone ((j : Nat) : Int) with
      | some b0 =>
        rw [hgk] at mg'
        refine WK.w_ifN (by simp) ?_
        refine lc_no hD3 la ⟨g03, ?_⟩
        rw [here_succ, if_pos (by rw [← mg']; rfl), List.append_nil]
        exact tp3
      | none =>
        rw [hgk] at mg'
        refine WK.w_ifP (by simp) ?_
        walk_at "w"
        refine ⟨WK.sz, fun p3 n3 => ?_⟩
        have g4 : Gr [] H3 (upd H3 p3 (.tup [.int (j : Nat)])) := Gr.new n3
        have h4 : (upd H3 p3 (.tup [.int (j : Nat)])) p3 = some (.tup [.int (j : Nat)]) := upd_same
        have hc4 := g4.tup _ _ hc3
        have hD4 := g4.k0 hD3
        have tp4 := tp3.gr g4
        generalize (upd H3 p3 (.tup [.int (j : Nat)])) = H4 at *
        walk_at "w"
        refine ⟨p3, c, _, _, rfl, rfl, SqT.of h4, SqT.of hc4, WK.sz, (fun h => by cases h), (fun _ h => by cases h), fun _ _ p4 n4 => ?_⟩
        have g5 : Gr [] H4 (upd H4 p4 (.tup ([.int (j : Nat)] ++ rwV (enAt s.ents j)))) := Gr.new n4
        have h5 : (upd H4 p4 (.tup ([.int (j : Nat)] ++ rwV (enAt s.ents j)))) p4 = some (.tup (s.row j)) := upd_same
        have hD5 := g5.k0 hD4
        have tp5 := tp4.gr g5
        have g05 := (g03.trans g4).trans g5
        generalize (upd H4 p4 (.tup ([.int (j : Nat)] ++ rwV (enAt s.ents j)))) = H5 at *
        have g6 : Gr [D] H5 (upd H5 D (.lst (acc ++ [.ref p4]))) := Gr.mutL hD5 (by simp)
        refine lc_yes hD5 la (by omega) ⟨g05.own g6 nD, ?_⟩
        rw [here_succ, if_neg (by rw [← mg']; decide), List.map_append]
        exact pr_append (tp5.gr g6) (.cons ⟨p4, rfl, g6.tup _ _ h5⟩ .nil)
    rintro D0 acc0 H1 nD0 hD0 la0 ⟨g1, tp1⟩
    rw [rl] at tp1
    have tp1 : Tps H1 acc0 (s.there.map s.row) := tp1
    walk_at "w"
    refine ⟨WK.sz, fun F nF => ?_⟩
    have g2 : Gr [] H1 (upd H1 F (.lst [.ref D0])) := Gr.new nF
    have hF2 : (upd H1 F (.lst [.ref D0])) F = some (.lst [.ref D0]) := upd_same
    have hD2 := g2.k0 hD0
    have tp2 := tp1.gr g2
    have g02 := g1.trans g2
    have DF : D0 ≠ F := fun e => by rw [← e, hD0] at nF; cases nF
    have nF0 := g1.live _ nF
    generalize (upd H1 F (.lst [.ref D0])) = H2 at *
    have ma2 := ma.k0 g02
    clear g1 g2 r1 r2 rl hD0 tp1
    walk_at "w"
    refine ⟨A, m, L, cd, hs, s, rfl, ma2, mt, wo, fun wl wxs H3 g3 nwl hwl twl => ?_⟩
    have wF : wl ≠ F := fun e => by rw [e, hF2] at nwl; cases nwl
    have hF3 := g3.k0 hF2
    have hD3 := g3.k0 hD2
    have tp3 := tp2.gr g3
    have g03 := g02.trans g3
    have ma3 := ma2.k0 g3
    clear g3 ma2 hF2 hD2 tp2 g02
    walk_at "w"
    refine ⟨A 0, _, rfl, ma3.d4, ?_⟩
    walk_at "w"
    refine ⟨A 4, seatsV m.seats, m.seats.map (·.1), rfl, .inl ma3.f4, ?_, ?_, fun ys l hp hsrt nl => ?_⟩
    · unfold seatsV
      rw [List.map_map, List.map_map]
      rfl
    · rw [mt.se, eo.ks, List.length_map]
      have := wo.t
      omega
    rw [mt.se, eo.ks] at hp
    obtain rfl := srtI_one hp hsrt
    have ym : ∀ r ∈ srtI (s.tabs.map (·.1)), r ∈ s.tabs.map (·.1) := fun r hr => (srtI_perm _).mem_iff.mp hr
    have yl : (srtI (s.tabs.map (·.1))).length ≤ 60 := by rw [(srtI_perm _).length_eq, List.length_map]; exact wo.t
    have eE : endD s = .list (lwD (s.there.map s.row) :: (srtI (s.tabs.map (·.1))).map (bitD s)) := rfl
    rw [eE] at q
    clear hp hsrt eE
    generalize srtI (s.tabs.map (·.1)) = ys at *
    have g4 : Gr [] H3 (upd H3 l (.lst (ys.map V.int))) := Gr.new nl
    have hl4 : (upd H3 l (.lst (ys.map V.int))) l = some (.lst (ys.map V.int)) := upd_same
    have lF : l ≠ F := fun e => by rw [e, hF3] at nl; cases nl
    have hF4 := g4.k0 hF3
    have hD4 := g4.k0 hD3
    have tp4 := tp3.gr g4
    have hwl4 := g4.k0 hwl
    have twl4 := twl.gr g4
    have g04 := g03.trans g4
    generalize (upd H3 l (.lst (ys.map V.int))) = H4 at *
    clear g4 hF3 hD3 tp3 hwl twl g03 nl ma3
    refine ⟨l, rfl, ⟨_, SqL.of hl4⟩, ?_⟩
    have wxl : wxs.length ≤ 240 := by rw [twl4.length, List.length_map]; exact wps_len mt wo
    refine lp_list (xs := ys.map V.int) (fun j σ' H' => ∃ y3 y4 acc, σ' = [some (.ref (A 0)), some (.ref F), some (.ref wl), y3, y4, none, none, none] ∧ Gr [F] H4 H' ∧ H' F = some (.lst (.ref D0 :: acc)) ∧ EdRows [F] H' s acc (ys.take j))
      ⟨none, none, [], rfl, Gr.refl _ _, hF4, .nil⟩ (fun j σ' H' _ ⟨_, _, _, _, g, _⟩ => SqL.of (g.k1 hl4 lF)) ?_ ?_
    · rintro j x _ H5 ex ⟨y3, y4, acc, rfl, g5, hF5, er⟩
      obtain ⟨r, hr0, rfl⟩ : ∃ r, ys[j]? = some r ∧ x = .int r := by
        rw [List.getElem?_map] at ex
        cases e : ys[j]? with
        | none => rw [e] at ex; cases ex
        | some k => rw [e] at ex; exact ⟨k, rfl, (Option.some.inj ex).symm⟩
      have jl := (List.getElem?_eq_some_iff.mp hr0).1
      have hm := ym _ (List.mem_of_getElem? hr0)
      obtain ⟨z, tb', hz, htb, ez⟩ := ed_seat eo hm
      obtain ⟨tb, gtb, sam, nd1, nd2⟩ := mt.tab htb
      have tks := take_snoc hr0
      have hwl5 := g5.k1 hwl4 wF
      have twl5 := twl4.gr g5
      have al : acc.length = j := by rw [er.length, List.length_take]; omega
      walk_at "w"
      refine ⟨⟨_, SqL.of hwl5⟩, ?_⟩
      refine lc_go (walk_list (K := K) (a := wl) (xs := wxs)) (fun D i ac H' => Gr [] H5 H' ∧ ac = (((s.wps.take i).filter fun y => decide (y.1 = r)).map (·.2)).map V.str) (fun D nD => ⟨Gr.new nD, rfl⟩) (fun D i ac H' _ ⟨g, _⟩ => SqL.of (g.k0 hwl5)) ?_ ?_
      · rintro D i ac x H6 H7 nD hi hD la ⟨g6, rfl⟩ ⟨rfl, ex⟩
        obtain ⟨y, f1, c, rfl, f2⟩ := pr_get twl5 ex
        obtain ⟨y, hy, rfl⟩ : ∃ w, s.wps[i]? = some w ∧ y = wpV w := by
          rw [List.getElem?_map] at f1
          cases e : s.wps[i]? with
          | none => rw [e] at f1; cases f1
          | some w => rw [e] at f1; exact ⟨w, rfl, (Option.some.inj f1).symm⟩
        have hc6 := g6.tup _ _ f2
        have tki := take_snoc hy
        walk_at "w"
        refine ⟨rfl, ?_⟩
        walk_at "w"
        refine WK.w_2 (fun h1 => ?_) (fun h1 => ?_)
        · walk_at "w"
          refine lc_yes hD la (by omega) ⟨g6.own (Gr.mutL hD (by simp)) nD, ?_⟩
          rw [tki, List.filter_append, List.filter_cons, if_pos (decide_eq_true h1), List.filter_nil, List.map_append, List.map_append]
          rfl
        · refine lc_no hD la ⟨g6, ?_⟩
          rw [tki, List.filter_append, List.filter_cons, if_neg (by simpa using h1), List.filter_nil, List.append_nil]
      rintro Dm ac H6 nDm hDm lam ⟨g6, rfl⟩
      rw [show wxs.length = s.wps.length from by rw [twl4.length, List.length_map], List.take_length, wps_of eo hm] at hDm
      have DmF : Dm ≠ F := fun e => by rw [e, hF5] at nDm; cases nDm
      have hF6 := g6.k0 hF5
      have g46 := g5.trans (g6.mono (by simp))
      have er6 := EdRows.keep er (g6.mono (by simp))
      have g06 : Gr [] H H6 := g04.own g46 nF0
      have ma6 := ma.k0 g06
      walk_at "w"
      refine WK.w_tyL hF6 ?_
      walk_at "w"
      refine ⟨A 0, _, rfl, ma6.d4, ?_⟩
      have sg := seats_get ma6.f4 r
      rw [mt.se, hz] at sg
      walk_at "w"
      refine ⟨A 4, .int z, rfl, sg, ?_⟩
      walk_at "w"
      refine ⟨A 0, _, rfl, ma6.d5, ?_⟩
      obtain ⟨ta, _, th6, tg6⟩ := ma6.tget gtb
      walk_at "w"
      refine ⟨A 5, _, rfl, tg6, ?_⟩
      refine WK.w_tyD th6 ?_
      refine ⟨ta, tb, rfl, rfl, th6, fun v nv => ?_⟩
      have g7 : Gr [] H6 (upd H6 v (L2.DX.itemsO v ta)) := Gr.new nv
      have ev : (upd H6 v (L2.DX.itemsO v ta)) v = some (L2.DX.itemsO v ta) := upd_same
      have th7 := g7.k0 th6
      have hF7 := g7.k0 hF6
      generalize (upd H6 v (L2.DX.itemsO v ta)) = H7 at *
      walk_at "w"
      refine ⟨v, ta, tb, rfl, ev, th7, fun H8 tl txs g8 ntl htl ttl => ?_⟩
      rw [ordS_same nd1 nd2 sam] at ttl
      have et : s.tab r = ordS tb' := by unfold LS.tab; rw [htb]; rfl
      rw [← et] at ttl
      have tF : tl ≠ F := fun e => by rw [e, hF7] at ntl; cases ntl
      have g68 := g7.trans g8
      have hDm8 := g68.k0 hDm
      have hF8 := g8.k0 hF7
      walk_at "w"
      refine ⟨WK.sz, fun t nt => ?_⟩
      have g9 : Gr [] H8 (upd H8 t (.tup [.int r, .int z, .ref tl, .ref Dm])) := Gr.new nt
      have ht9 : (upd H8 t (.tup [.int r, .int z, .ref tl, .ref Dm])) t = some (.tup [.int r, .int z, .ref tl, .ref Dm]) := upd_same
      have hF9 := g9.k0 hF8
      have g69 := g68.trans g9
      generalize (upd H8 t (.tup [.int r, .int z, .ref tl, .ref Dm])) = H9 at *
      walk_at "w"
      refine ⟨F, _, _, rfl, rfl, hF9, WK.sz' (by rw [List.length_cons]; omega), ?_⟩
      have g10 : Gr [F] H9 (upd H9 F (.lst ((.ref D0 :: acc) ++ [.ref t]))) := Gr.mutL hF9 (by simp)
      refine ⟨_, _, acc ++ [.ref t], rfl, (g46.trans (g69.mono (by simp))).trans g10, upd_same, ?_⟩
      rw [tks]
      refine pr_append ((EdRows.keep er6 (g69.mono (by simp))).keep g10) (.cons ⟨t, tl, Dm, txs, rfl, ?_, by simpa using tF, by simpa using DmF, g10.k1 (g9.k0 htl) tF, (ttl.gr g9).gr g10, g10.k1 (g69.k0 hDm) DmF⟩ .nil)
      rw [ez]
      exact g10.tup _ _ ht9
    · rintro _ H5 ⟨y3, y4, acc, rfl, g5, hF5, er⟩
      rw [List.length_map, List.take_length] at er
      walk_at "w"
      exact q (.ref F) H5 (g04.own g5 nF0) (.lst (SqL.of hF5) (.cons (lw_dp (g5.k1 hD4 DF) (tp4.gr g5) (row_atom wo)) (edrows_dp wo er)))

end
end PK
namespace PK
open PySem L2
section
variable {P : Program} {w : World} {K : PySem.W.Frag} {mg : Str → Option Value} {base : Heap}
theorem lc_yesB {R : Addr → Nat → List V → Hp → Prop} {D : Addr} {i : Nat} {y : V} {acc : List V} {H : Hp} (h : H D = some (.lst acc)) (l : acc.length ≤ i) (hi : i < sizeLine) (r : R D (i + 1) (acc ++ [y]) (upd H D (.lst (acc ++ [y])))) : LcY R D i y H :=
  ⟨acc, h, Nat.lt_of_le_of_lt l hi, acc ++ [y], upd_same, by rw [List.length_append, List.length_singleton]; omega, r⟩
/-- all rows of so many, in their order -/
def setsL {α : Type} : List α → Nat → List (List α)
  | _, 0 => [[]]
  | [], _ + 1 => []
  | x :: l, k + 1 => ((setsL l k).map (x :: ·)) ++ setsL l (k + 1)
def chN : Nat → Nat → Nat
  | _, 0 => 1
  | 0, _ + 1 => 0
  | n + 1, k + 1 => chN n k + chN n (k + 1)
theorem setsL_zero {α : Type} (l : List α) : setsL l 0 = [[]] := by cases l <;> rfl
theorem setsL_len {α : Type} : ∀ (l : List α) (k : Nat), (setsL l k).length = chN l.length k
  | l, 0 => by rw [setsL_zero]; cases l <;> rfl
  | [], _ + 1 => rfl
  | x :: l, k + 1 => by
    show (((setsL l k).map (x :: ·)) ++ setsL l (k + 1)).length = chN l.length k + chN l.length (k + 1)
    rw [List.length_append, List.length_map, setsL_len l k, setsL_len l (k + 1)]
theorem chN_succ (n k : Nat) : chN n k ≤ chN (n + 1) k := by
  cases k with
  | zero => cases n <;> exact Nat.le_refl _
  | succ k => exact Nat.le_add_left _ _
theorem chN_mono {n m : Nat} (k : Nat) (h : n ≤ m) : chN n k ≤ chN m k := by
  induction h with
  | refl => exact Nat.le_refl _
  | step _ ih => exact Nat.le_trans ih (chN_succ _ _)
theorem chN_top {n k : Nat} (hn : n ≤ 107) (hk : k ≤ 4) : chN n k < 6000000 := by
  refine Nat.lt_of_le_of_lt (chN_mono k hn) ?_
  have z : k = 0 ∨ k = 1 ∨ k = 2 ∨ k = 3 ∨ k = 4 := by omega
  have e0 : chN 107 0 < 6000000 := by decide +kernel
  have e1 : chN 107 1 < 6000000 := by decide +kernel
  have e2 : chN 107 2 < 6000000 := by decide +kernel
  have e3 : chN 107 3 < 6000000 := by decide +kernel
  have e4 : chN 107 4 < 6000000 := by decide +kernel
  rcases z with rfl | rfl | rfl | rfl | rfl <;> assumption
theorem setsL_top {α : Type} {l : List α} {k : Nat} (hn : l.length ≤ 107) (hk : k ≤ 4) : (setsL l k).length < 6000000 := by
  rw [setsL_len]
  exact chN_top hn hk
theorem setsL_in {α : Type} : ∀ {l : List α} {k : Nat} {r : List α}, r ∈ setsL l k → r.length = k ∧ ∀ x ∈ r, x ∈ l
  | l, 0, r, h => by
    rw [setsL_zero] at h
    rw [List.mem_singleton.mp h]
    exact ⟨rfl, by simp⟩
  | [], _ + 1, _, h => by cases h
  | x :: l, k + 1, r, h => by
    have h : r ∈ ((setsL l k).map (x :: ·)) ++ setsL l (k + 1) := h
    rcases List.mem_append.mp h with z | z
    · obtain ⟨r0, h0, rfl⟩ := List.mem_map.mp z
      obtain ⟨h1, h2⟩ := setsL_in h0
      exact ⟨by rw [List.length_cons, h1], fun y hy => by
        rcases List.mem_cons.mp hy with rfl | hy
        · exact List.mem_cons_self
        · exact List.mem_cons_of_mem _ (h2 y hy)⟩
    · obtain ⟨h1, h2⟩ := setsL_in z
      exact ⟨h1, fun y hy => List.mem_cons_of_mem _ (h2 y hy)⟩
/-- the rows that begin with one of the first -/
def setsTo {α : Type} (l : List α) (k j : Nat) : List (List α) := (List.range j).flatMap fun i => match l[i]? with
  | some x => (setsL (l.drop (i + 1)) k).map (x :: ·)
  | none => []
theorem setsTo_succ {α : Type} {l : List α} {k j : Nat} {x : α} (h : l[j]? = some x) : setsTo l k (j + 1) = setsTo l k j ++ (setsL (l.drop (j + 1)) k).map (x :: ·) := by
  unfold setsTo
  rw [List.range_succ, List.flatMap_append, List.flatMap_cons, List.flatMap_nil, List.append_nil]
  rw [h]
theorem setsTo_all {α : Type} (k : Nat) : ∀ l : List α, setsTo l k l.length = setsL l (k + 1)
  | [] => rfl
  | x :: l => by
    unfold setsTo
    rw [List.length_cons, List.range_succ_eq_map, List.flatMap_cons, List.flatMap_map]
    show (setsL l k).map (x :: ·) ++ _ = (setsL l k).map (x :: ·) ++ setsL l (k + 1)
    rw [← setsTo_all k l]
    rfl
theorem setsTo_len {α : Type} {l : List α} {k j : Nat} (h : j ≤ l.length) : (setsTo l k j).length ≤ (setsL l (k + 1)).length := by
  rw [← setsTo_all k l]
  have e : List.range l.length = List.range j ++ (List.range (l.length - j)).map (j + ·) := by
    rw [show l.length = j + (l.length - j) from by omega, List.range_add]
    simp
  unfold setsTo
  rw [e, List.flatMap_append, List.length_append]
  omega
/-- what has been drawn out of a row of guards: tuples, as far as they stand there -/
def GdRow (H : Hp) (x : V) (g : Str × Int) : Prop := ∃ c, x = .ref c ∧ H c = some (.tup (gdV g))
abbrev GdRows (H : Hp) : List V → List (Str × Int) → Prop := Paired (GdRow H)
theorem GdRows.gr {M : List Addr} {H H' : Hp} {xs : List V} {gs : List (Str × Int)} (h : GdRows H xs gs) (g : Gr M H H') : GdRows H' xs gs := Paired.mono (fun _ _ ⟨c, e, z⟩ => ⟨c, e, g.tup _ _ z⟩) h
/-- a tuple of guards -/
def GdTup (H : Hp) (x : V) (gs : List (Str × Int)) : Prop := ∃ t xs, x = .ref t ∧ H t = some (.tup xs) ∧ GdRows H xs gs
theorem GdTup.gr {M : List Addr} {H H' : Hp} {x : V} {gs : List (Str × Int)} (h : GdTup H x gs) (g : Gr M H H') : GdTup H' x gs := by
  obtain ⟨t, xs, e, h1, h2⟩ := h
  exact ⟨t, xs, e, g.tup _ _ h1, h2.gr g⟩
abbrev GdTups (H : Hp) : List V → List (List (Str × Int)) → Prop := Paired (GdTup H)
theorem GdTups.gr {M : List Addr} {H H' : Hp} {xs : List V} {gs : List (List (Str × Int))} (h : GdTups H xs gs) (g : Gr M H H') : GdTups H' xs gs := Paired.mono (fun _ _ z => z.gr g) h
theorem pr_drop {α β : Type} {F : α → β → Prop} : ∀ {a : List α} {b : List β} (n : Nat), Paired F a b → Paired F (a.drop n) (b.drop n)
  | _, _, 0, h => h
  | _, _, _ + 1, .nil => .nil
  | _, _, n + 1, .cons _ t => pr_drop n t
theorem pr_take {α β : Type} {F : α → β → Prop} : ∀ {a : List α} {b : List β} (n : Nat), Paired F a b → Paired F (a.take n) (b.take n)
  | _, _, 0, _ => .nil
  | _, _, _ + 1, .nil => .nil
  | _, _, n + 1, .cons h t => .cons h (pr_take n t)
abbrev s_law_sets : Stmt := topS 14
abbrev N_law_sets : List Str := ["_law_some", "_law_size", "_law_found", "_law_k", "_law_one_so", "_law_rest"]
abbrev ps_law_sets : List Str := ["_law_some", "_law_size"]
theorem sc_law_sets : FnScope N_law_sets ps_law_sets (defScope s_law_sets) := ⟨rfl, rfl, rfl, by decide +kernel, rfl, by decide +kernel, by decide +kernel⟩
def spSets (n : Nat) : Sp := fun vs H Q _ => ∃ (l : Addr) (xs : List V) (gs : List (Str × Int)) (k : Nat), vs = [.ref l, .int (k : Nat)] ∧ H l = some (.lst xs) ∧ GdRows H xs gs ∧ gs.length ≤ 107 ∧ k ≤ n ∧ k ≤ 4 ∧
  ∀ r ys H', Gr [] H H' → H r = none → H' r = some (.lst ys) → GdTups H' ys (setsL gs k) → Q (.ref r) H'
theorem sets_body (D : Df K mg "_law_sets" s_law_sets ps_law_sets) (T : Txt mg) (n k0 : Nat) (sp' : Sp) (G_law_sets : Has P w K mg base k0 "_law_sets" ps_law_sets sp') (imp : ∀ m, n = m + 1 → ∀ vs H Q E, spSets m vs H Q E → sp' vs H Q E) :
    Has P w K mg base (k0 + 1) "_law_sets" ps_law_sets (spSets n) := Has.mk' D fun f fd F => by
  refine F.ok sc_law_sets (fun vs H Q E h => ?_) (fun cdv A outer s H vs Q E hr h => ?_)
  · obtain ⟨l, xs, gs, k, rfl, _⟩ := h
    rfl
  · obtain ⟨l, xs, gs, k, rfl, hl, gr, g107, kn, k4, q⟩ := h
    refine ⟨_, (pss_cons (ps_if (pt_cmpR op_eq (pv 1) pe_int (nomark _))
  (pss_one (ps_ret (pe_lst (pa_cons (pe_tup pa_nil) pa_nil))))
  pss_nil)
(pss_cons (ps_set (i := 2) sc_law_sets.nd rfl (Or.inl rfl) (pe_lst pa_nil))
(pss_cons (ps_for PassesOwn.never rfl (pi_enum (by rfl) T.m_enumerate (pa_cons (pv 0) pa_nil)) (pg_tup rfl (pgs_cons (pg_name (i := 3) sc_law_sets.nd rfl (Or.inl rfl)) (pgs_cons (pg_name (i := 4) sc_law_sets.nd rfl (Or.inr rfl)) pgs_nil)))
  (pss_one (ps_set (i := 2) sc_law_sets.nd rfl (Or.inl rfl) (pe_op op_cat (pv 2) (pe_lc (own := [("_law_rest", 5)]) (g := gName 5)  rfl sc_law_sets.nd (pi_list (pe_callH G_law_sets (hr.mono (by first | decide | omega)) (by rfl) (pa_cons (pe_slice (sl_listK (K := K)) (pv 0) (po_some (pe_op op_add (pv 3) pe_int)) po_none) (pa_cons (pe_op op_sub (pv 1) pe_int) pa_nil)))) (blkOk_by (own := [("_law_rest", 5)]) (N := N_law_sets) (sc := defScope s_law_sets) (by decide +kernel)) (fun _ _ _ _ _ => pg_name (i := 5) sc_law_sets.nd rfl (Or.inl rfl)) (fun _ _ _ _ _ => pts_nil) (fun _ _ _ _ _ => (pe_op (op_catAK (K := K)) (pe_tup (pa_cons (pv 4) pa_nil)) (pv 5))))))))
(pss_one (ps_ret (pv 2)))))), ?_⟩
    have xl : xs.length = gs.length := gr.length
    walk_at "w"
    walk_at "i"
    refine WK.w_2 (fun h1 => ?_) (fun h1 => ?_)
    · obtain rfl : k = 0 := by omega
      walk_at "w"
      refine ⟨WK.sz, fun t nt => ?_⟩
      have g1 : Gr [] H (upd H t (.tup [])) := Gr.new nt
      have ht : (upd H t (.tup [])) t = some (.tup []) := upd_same
      generalize (upd H t (.tup [])) = H1 at *
      walk_at "w"
      refine ⟨WK.sz, fun r nr => ?_⟩
      have g2 : Gr [] H1 (upd H1 r (.lst [.ref t])) := Gr.new nr
      refine q r _ _ (g1.trans g2) (g1.live _ nr) upd_same ?_
      rw [setsL_zero]
      exact .cons ⟨t, [], rfl, g2.tup _ _ ht, .nil⟩ .nil
    · cases n with
      | zero => omega
      | succ n =>
      obtain ⟨k, rfl⟩ : ∃ j, k = j + 1 := ⟨k - 1, by omega⟩
      walk_at "w"
      refine ⟨WK.sz, fun F0 nF0 => ?_⟩
      have g1 : Gr [] H (upd H F0 (.lst [])) := Gr.new nF0
      have hF0 : (upd H F0 (.lst [])) F0 = some (.lst []) := upd_same
      generalize (upd H F0 (.lst [])) = H1 at *
      walk_at "w"
      refine w_enum ?_
      walk_at "w"
      refine ⟨l, xs, rfl, SqL.of (g1.k0 hl), ?_⟩
      refine lp_it (walk_enum (K := K) (a := l) (xs := xs)) (fun j σ' H' => ∃ F ys y3 y4, σ' = [some (.ref l), some (.int ((k + 1 : Nat) : Int)), some (.ref F), y3, y4, none] ∧ Gr [] H H' ∧ H F = none ∧ H' F = some (.lst ys) ∧ GdTups H' ys (setsTo gs k j))
        ⟨F0, [], none, none, rfl, g1, nF0, hF0, .nil⟩ (fun j σ' H' _ ⟨_, _, _, _, _, g, _⟩ => SqL.of (g.k0 hl)) ?_ ?_
      · rintro j x _ H2 H3 hj ⟨F, ys, y3, y4, rfl, g2, nF, hF2, ty2⟩ ⟨tt', v1, v2, rfl, nt, rfl, e1, e2⟩
        cases e1
        obtain ⟨g, eg, c, rfl, hc⟩ := pr_get gr e2
        have g3 : Gr [] H2 (upd H2 tt' (.tup [.int (j : Nat), .ref c])) := Gr.new nt
        have ht3 : (upd H2 tt' (.tup [.int (j : Nat), .ref c])) tt' = some (.tup [.int (j : Nat), .ref c]) := upd_same
        have hF3 := g3.k0 hF2
        have ty3 := ty2.gr g3
        have g03 := g2.trans g3
        generalize (upd H2 tt' (.tup [.int (j : Nat), .ref c])) = H3 at *
        have hl3 := g03.k0 hl
        walk_at "w"
        refine ⟨l, xs, rfl, SqL.of hl3, fun T0 nT0 => ?_⟩
        have ecut : cutV xs (some ((j : Int) + 1)) none = xs.drop (j + 1) := by
          unfold cutV
          rw [show ((j : Int) + 1) = ((j + 1 : Nat) : Int) from rfl]
          simp only [HT.sIx_nat]
          have : min (j + 1) xs.length = j + 1 := by omega
          rw [this]
          show (xs.drop (j + 1)).take _ = _
          exact List.take_of_length_le (by rw [List.length_drop]; exact Nat.le_refl _)
        rw [ecut]
        have g4 : Gr [] H3 (upd H3 T0 (.lst (xs.drop (j + 1)))) := Gr.new nT0
        have hT4 : (upd H3 T0 (.lst (xs.drop (j + 1)))) T0 = some (.lst (xs.drop (j + 1))) := upd_same
        have hF4 := g4.k0 hF3
        have ty4 := ty3.gr g4
        have g04 := g03.trans g4
        generalize (upd H3 T0 (.lst (xs.drop (j + 1)))) = H4 at *
        walk_at "w"
        refine imp n rfl _ _ _ _ ⟨T0, _, gs.drop (j + 1), k, by rw [show (((k + 1 : Nat) : Int) - 1) = (k : Int) from by omega]; rfl, hT4, pr_drop _ (gr.gr g04), by rw [List.length_drop]; omega, by omega, by omega, fun R zs H5 g5 nR hR tz => ?_⟩
        have hF5 := g5.k0 hF4
        have ty5 := ty4.gr g5
        have g05 := g04.trans g5
        have hc5 := g05.tup _ _ hc
        have zl : zs.length < 6000000 := by
          rw [tz.length]
          exact setsL_top (by rw [List.length_drop]; omega) (by omega)
        refine ⟨R, rfl, ⟨_, SqL.of hR⟩, ?_⟩
        refine lc_go (walk_list (K := K) (a := R) (xs := zs)) (fun D i ac H' => Gr [] H5 H' ∧ GdTups H' ac (((setsL (gs.drop (j + 1)) k).take i).map (g :: ·))) (fun D nD => ⟨Gr.new nD, .nil⟩) (fun D i ac H' _ ⟨g, _⟩ => SqL.of (g.k0 hR)) ?_ ?_
        · rintro D i ac x H60 H6 nD hi hD la ⟨g6, ta6⟩ ⟨rfl, ex⟩
          obtain ⟨gs1, f1, t, txs, rfl, f2, f3⟩ := pr_get tz ex
          walk_at "w"
          refine ⟨rfl, ?_⟩
          walk_at "w"
          refine WK.w_ifP rfl ?_
          walk_at "w"
          refine ⟨WK.sz, fun p3 n3 => ?_⟩
          have g7 : Gr [] H6 (upd H6 p3 (.tup [.ref c])) := Gr.new n3
          have h7 : (upd H6 p3 (.tup [.ref c])) p3 = some (.tup [.ref c]) := upd_same
          have ht7 := (g6.trans g7).tup _ _ f2
          have f37 := f3.gr (g6.trans g7)
          have hc7 := (g6.trans g7).tup _ _ hc5
          have hD7 := g7.k0 hD
          have ta7 := ta6.gr g7
          generalize (upd H6 p3 (.tup [.ref c])) = H7 at *
          have gs1l := setsL_in (List.mem_of_getElem? f1)
          have app : ∀ (p4 : Addr) (H8 : Hp), Gr [] H7 H8 → H8 p4 = some (.tup ([.ref c] ++ txs)) → LcY (fun D i ac H' => Gr [] H5 H' ∧ GdTups H' ac (((setsL (gs.drop (j + 1)) k).take i).map (g :: ·))) D i (.ref p4) H8 := fun p4 H8 g8 h8 => by
            have hD8 := g8.k0 hD7
            have g9 : Gr [D] H8 (upd H8 D (.lst (ac ++ [.ref p4]))) := Gr.mutL hD8 (by simp)
            refine lc_yesB hD8 la (Nat.lt_trans hi (Nat.lt_trans zl (by decide))) ⟨((g6.trans g7).trans g8).own g9 nD, ?_⟩
            rw [take_snoc f1, List.map_append]
            exact pr_append ((ta7.gr g8).gr g9) (.cons ⟨p4, _, rfl, g9.tup _ _ h8, .cons ⟨c, rfl, g9.tup _ _ (g8.tup _ _ hc7)⟩ ((f37.gr g8).gr g9)⟩ .nil)
          walk_at "w"
          refine ⟨p3, t, _, _, rfl, rfl, SqT.of h7, SqT.of ht7, ?_, (fun h => by cases h), (fun _ h => ?_), fun _ _ p4 n4 => app p4 _ (Gr.new n4) upd_same⟩
          · rw [f3.length, gs1l.1]
            exact Nat.le_of_lt (WK.sz' (show 1 + k < 100000 by omega))
          · rw [h] at app
            exact app p3 H7 (Gr.refl _ _) h7
        rintro D ac H6 nD hD la ⟨g6, ta6⟩
        rw [show zs.length = (setsL (gs.drop (j + 1)) k).length from tz.length, List.take_length] at ta6
        have hF6 := g6.k0 hF5
        have ty6 := ty5.gr g6
        have yl : ys.length < 6000000 := by
          rw [ty6.length]
          exact Nat.lt_of_le_of_lt (setsTo_len (by omega)) (setsL_top g107 k4)
        walk_at "w"
        refine ⟨F, D, ys, ac, rfl, rfl, hF6, hD, Nat.le_trans (Nat.add_le_add (Nat.le_of_lt yl) (Nat.le_trans la (Nat.le_of_lt zl))) (by decide), fun c2 nc2 => ?_⟩
        have g7 : Gr [] H6 (upd H6 c2 (.lst (ys ++ ac))) := Gr.new nc2
        have g06 := g05.trans g6
        refine ⟨c2, _, _, _, rfl, g06.trans g7, g06.live _ nc2, upd_same, ?_⟩
        rw [setsTo_succ eg]
        exact pr_append (ty6.gr g7) (ta6.gr g7)
      · rintro _ H2 ⟨F, ys, y3, y4, rfl, g2, nF, hF2, ty2⟩
        rw [xl, setsTo_all] at ty2
        walk_at "w"
        exact q F ys H2 g2 nF hF2 ty2
theorem has_sets (D : Df K mg "_law_sets" s_law_sets ps_law_sets) (T : Txt mg) : ∀ n : Nat, Has P w K mg base (n + 1) "_law_sets" ps_law_sets (spSets n)
  | 0 => sets_body D T 0 0 (fun _ _ _ _ => False) (Has.bot D 0) (fun m e => by omega)
  | n + 1 => sets_body D T (n + 1) (n + 1) (spSets n) (has_sets D T n) (fun m e => by
    obtain rfl : n = m := by omega
    exact fun _ _ _ _ h => h)

end
end PK
namespace PK
open PySem L2
section
variable {P : Program} {w : World} {K : PySem.W.Frag} {mg : Str → Option Value} {base : Heap}
theorem pr_unmap {α β γ : Type} {F : α → γ → Prop} (f : β → γ) : ∀ {a : List α} {b : List β}, Paired F a (b.map f) → Paired (fun x y => F x (f y)) a b
  | _, [], .nil => .nil
  | _, _ :: _, .cons h t => .cons h (pr_unmap f t)
theorem pr_domap {α β γ : Type} {F : α → γ → Prop} (f : β → γ) : ∀ {a : List α} {b : List β}, Paired (fun x y => F x (f y)) a b → Paired F a (b.map f)
  | _, [], .nil => .nil
  | _, _ :: _, .cons h t => .cons h (pr_domap f t)
theorem allG_ok {es : List Ev} {ns : List Int} (row : Row es ns) (sev : ∀ k ∈ folk es, k ∈ seven) : ∀ g ∈ allG (kept es) ns, GdO g := fun g hg => by
  unfold allG at hg
  rcases List.mem_append.mp hg with z | z
  · obtain ⟨k, _, rfl⟩ := List.mem_map.mp z
    exact ⟨Int.natCast_nonneg k, .inl rfl⟩
  · obtain ⟨k, hk, rfl⟩ := List.mem_map.mp z
    have h7 := sev k ((row.2 k).mp hk)
    simp only [seven, List.mem_cons, List.not_mem_nil, or_false] at h7
    exact ⟨show 0 ≤ k by omega, .inr rfl⟩
theorem cut_upto (xs : List V) (n : Nat) : cutV xs none (some (n : Int)) = xs.take n := by
  unfold cutV
  rw [HT.sIx_nat]
  show (xs.drop 0).take (min n xs.length - 0) = _
  rw [List.drop_zero, Nat.sub_zero]
  by_cases h : n ≤ xs.length
  · rw [Nat.min_eq_left h]
  · rw [Nat.min_eq_right (by omega), List.take_of_length_le (Nat.le_refl _), List.take_of_length_le (by omega)]
theorem SwT.q {H : Hp} {t : Addr} {bs : List (Int × Int)} (h : SwT H t bs) : SwQ K H (.ref t) bs := by
  obtain ⟨xs, h1, h2⟩ := h
  exact ⟨t, xs, rfl, .inr (SqT.of h1), pr_unmap (F := fun x y => ∃ c, x = V.ref c ∧ Sq K H c y) swV (Paired.mono (fun _ _ ⟨c, e, z⟩ => ⟨c, e, .inr (SqT.of z)⟩) h2)⟩
theorem GdT.q {H : Hp} {t : Addr} {gs : List (Str × Int)} (h : GdT H t gs) : GdQ K H (.ref t) gs := by
  obtain ⟨xs, h1, h2⟩ := h
  exact ⟨t, xs, rfl, .inr (SqT.of h1), pr_unmap (F := fun x y => ∃ c, x = V.ref c ∧ Sq K H c y) gdV (Paired.mono (fun _ _ ⟨c, e, z⟩ => ⟨c, e, .inr (SqT.of z)⟩) h2)⟩
theorem GdTup.t {H : Hp} {x : V} {gs : List (Str × Int)} (h : GdTup H x gs) : ∃ t, x = .ref t ∧ GdT H t gs := by
  obtain ⟨t, xs, e, h1, h2⟩ := h
  exact ⟨t, e, xs, h1, pr_domap (F := fun x y => ∃ c, x = V.ref c ∧ H c = some (.tup y)) gdV h2⟩
abbrev s_law_right : Stmt := topS 35
abbrev N_law_right : List Str := ["_law_box_here", "_law_turn", "_law_table_here", "_law_keep", "_law_count", "_law_some", "_law_broom", "_law_size", "_law_watch", "_law_told", "_law_k", "_law_row", "_law_p"]
abbrev ps_law_right : List Str := ["_law_box_here"]
theorem sc_law_right : FnScope N_law_right ps_law_right (defScope s_law_right) := ⟨rfl, rfl, rfl, by decide +kernel, rfl, by decide +kernel, by decide +kernel⟩
def spRight : Sp := fun vs H Q _ => ∃ (b : Addr) (n : Nat), vs = [.ref b] ∧ Bx H b (n + 2000) ∧ ∀ H', Gr [b] H H' → Bx H' b n → Q (.bl true) H'
theorem has_right {C e1 e2 : Addr} (D : Df K mg "_law_right" s_law_right ps_law_right) (T : Txt mg) (z1 : ∀ H, SqT K H e1 []) (z2 : ∀ H, SqT K H e2 []) (G_law_take : Has P w K mg base 1 "_law_take" ps_law_take spTake) (G_law_drawn : Has P w K mg base 5 "_law_drawn" ps_law_drawn spDrawn)
    (G_law_some_broom : Has P w K mg base 3 "_law_some_broom" ps_law_some_broom (spBroom K)) (G_law_same : Has P w K mg base 5 "_law_same" ps_law_same (spSame K 4)) (G_law_sets : Has P w K mg base 5 "_law_sets" ps_law_sets (spSets 4))
    (G_run : Has P w K mg base 8 "run" ps_run (spRun K C)) (B2_run : HasB P w K mg base 8 "run" ps_run [.ref e1, .ref e2] (spRun K C)) (G_law_end : Has P w K mg base 4 "_law_end" ps_law_end (spEndL K C)) (G_law_own_end : Has P w K mg base 2 "_law_own_end" ps_law_own_end (spEndM K))
    (G_law_run : Has P w K mg base 4 "_law_run" ps_law_run spMRun) (B3_law_run : HasB P w K mg base 4 "_law_run" ps_law_run [.non] spMRun) :
    Has P w K mg base 9 "_law_right" ps_law_right spRight := Has.mk' D fun f fd F => by
  refine F.ok sc_law_right (fun vs H Q E h => ?_) (fun cdv A outer s H vs Q E hr h => ?_)
  · obtain ⟨b, n, rfl, _⟩ := h
    rfl
  · obtain ⟨b, n, rfl, hb, q⟩ := h
    refine ⟨_, (pss_cons (ps_for PassesOwn.never rfl (pi_range1 (by rfl) T.m_range (pa_cons pe_int pa_nil)) (pg_name (i := 1) sc_law_right.nd rfl (Or.inl rfl))
  (pss_cons (ps_par (i := 2) (j := 3) (by rfl) sc_law_right.nd rfl rfl (by decide) rfl rfl (pa_cons (pe_callH G_law_drawn (hr.mono (by decide)) (by rfl) (pa_cons (pv 0) (pa_cons pe_int pa_nil))) (pa_cons (pe_callH G_law_take (hr.mono (by decide)) (by rfl) (pa_cons (pv 0) (pa_cons pe_int pa_nil))) pa_nil)) (by rfl))
  (pss_cons (ps_set (i := 4) sc_law_right.nd rfl (Or.inl rfl) (pe_callB (call_len_seqK (K := K)) (by rfl) T.m_len (by decide +kernel) (pa_cons (pe_lc (own := [("_law_row", 11)]) (g := gName 11)  rfl sc_law_right.nd (pi_tup (pv 2)) (blkOk_by (own := [("_law_row", 11)]) (N := N_law_right) (sc := defScope s_law_right) (by decide +kernel)) (fun _ _ _ _ _ => pg_name (i := 11) sc_law_right.nd rfl (Or.inl rfl)) (fun _ _ _ _ _ => pts_one (pt_cmpR op_eq (pe_ix (ix_tupK (K := K)) (pv 11) pe_int (fun _ _ => rfl)) pe_str (nomark _))) (fun _ _ _ _ _ => (pv 11))) pa_nil)))
  (pss_cons (ps_setLc (i := 5) (own := [("_law_k", 10)]) (g := gName 10)  rfl sc_law_right.nd rfl rfl (sw_true rfl rfl rfl (by decide +kernel)) (pi_range1 (by rfl) T.m_range (pa_cons (pv 4) pa_nil)) (blkOk_by (own := [("_law_k", 10)]) (N := N_law_right) (sc := defScope s_law_right) (by decide +kernel)) (fun _ _ _ _ _ => pg_name (i := 10) sc_law_right.nd rfl (Or.inl rfl)) (fun _ _ _ _ _ => pts_nil) (fun _ _ _ _ _ => (pe_tup (pa_cons pe_str (pa_cons (pv 10) pa_nil)))))
  (pss_cons (ps_set (i := 5) sc_law_right.nd rfl (Or.inl rfl) (pe_op op_cat (pv 5) (pe_lc (own := [("_law_p", 12)]) (g := gName 12)  rfl sc_law_right.nd (pi_list (pe_callB (cr_sortedSet rfl) (by rfl) T.m_sorted (by decide +kernel) (pa_cons (pe_callTy (cr_setI (K := K) rfl) (by rfl) T.m_set (by decide +kernel) (pa_cons (pe_lc (own := [("_law_row", 11)]) (g := gName 11)  rfl sc_law_right.nd (pi_tup (pv 2)) (blkOk_by (own := [("_law_row", 11)]) (N := N_law_right) (sc := defScope s_law_right) (by decide +kernel)) (fun _ _ _ _ _ => pg_name (i := 11) sc_law_right.nd rfl (Or.inl rfl)) (fun _ _ _ _ _ => pts_one (pt_cmpR (op_in_seqK (K := K)) (pe_ix (ix_tupK (K := K)) (pv 11) pe_int (fun _ _ => rfl)) (pe_tup (pa_cons pe_str (pa_cons pe_str pa_nil))) (by rfl))) (fun _ _ _ _ _ => (pe_ix (ix_tupK (K := K)) (pv 11) pe_int (fun _ _ => rfl)))) pa_nil)) pa_nil))) (blkOk_by (own := [("_law_p", 12)]) (N := N_law_right) (sc := defScope s_law_right) (by decide +kernel)) (fun _ _ _ _ _ => pg_name (i := 12) sc_law_right.nd rfl (Or.inl rfl)) (fun _ _ _ _ _ => pts_nil) (fun _ _ _ _ _ => (pe_tup (pa_cons pe_str (pa_cons (pv 12) pa_nil)))))))
  (pss_cons (ps_set (i := 6) sc_law_right.nd rfl (Or.inl rfl) (pe_callH G_law_some_broom (hr.mono (by decide)) (by rfl) (pa_cons (pv 0) (pa_cons (pv 2) pa_nil))))
  (pss_cons (ps_for PassesOwn.never rfl (pi_range1 (by rfl) T.m_range (pa_cons (pe_op op_add (pe_callB (call_min2 rfl) (by rfl) T.m_min (by decide +kernel) (pa_cons pe_int (pa_cons (pe_callB (call_len_seqK (K := K)) (by rfl) T.m_len (by decide +kernel) (pa_cons (pv 5) pa_nil)) pa_nil))) pe_int) pa_nil)) (pg_name (i := 7) sc_law_right.nd rfl (Or.inl rfl))
    (pss_one (ps_for PassesOwn.never rfl (pi_list (pe_slice (sl_listK (K := K)) (pe_callH G_law_sets (hr.mono (by decide)) (by rfl) (pa_cons (pv 5) (pa_cons (pv 7) pa_nil))) po_none (po_some pe_int))) (pg_name (i := 8) sc_law_right.nd rfl (Or.inl rfl))
      (pss_cons (ps_set (i := 9) sc_law_right.nd rfl (Or.inl rfl) (pe_callH G_law_end (hr.mono (by decide)) (by rfl) (pa_cons (pe_callH G_run (hr.mono (by decide)) (by rfl) (pa_cons (pv 2) (pa_cons (pv 3) (pa_cons (pv 6) (pa_cons (pv 8) pa_nil))))) pa_nil)))
      (pss_one (ps_if (pt_not (pt_val (pe_callH G_law_same (hr.mono (by decide)) (by rfl) (pa_cons (pv 9) (pa_cons (pe_callH G_law_own_end (hr.mono (by decide)) (by rfl) (pa_cons (pe_callH G_law_run (hr.mono (by decide)) (by rfl) (pa_cons (pv 2) (pa_cons (pv 3) (pa_cons (pv 6) (pa_cons (pv 8) pa_nil))))) pa_nil)) pa_nil)))))
        (pss_one (ps_ret pe_bl))
        pss_nil))))))
  (pss_one (ps_if (pt_not (pt_val (pe_callH G_law_same (hr.mono (by decide)) (by rfl) (pa_cons (pe_callH G_law_end (hr.mono (by decide)) (by rfl) (pa_cons (pe_callHB B2_run (hr.mono (by decide)) (by rfl) (pa_cons (pv 2) (pa_cons (pv 3) pa_nil))) pa_nil)) (pa_cons (pe_callH G_law_own_end (hr.mono (by decide)) (by rfl) (pa_cons (pe_callHB B3_law_run (hr.mono (by decide)) (by rfl) (pa_cons (pv 2) (pa_cons (pv 3) (pa_cons (pe_tup pa_nil) pa_nil)))) pa_nil)) pa_nil)))))
    (pss_one (ps_ret pe_bl))
    pss_nil)))))))))
(pss_one (ps_ret pe_bl))), ?_⟩
    walk_at "w"
    refine ⟨by decide, by decide, lp_range (fun i σ' H' => ∃ y1 y2 y3 y4 y5 y6 y7 y8 y9, σ' = [some (.ref b), y1, y2, y3, y4, y5, y6, y7, y8, y9, none, none, none] ∧ Gr [b] H H' ∧ Bx H' b (n + (3 - i) * 600))
      ⟨none, none, none, none, none, none, none, none, none, rfl, Gr.refl _ _, hb.mono (by omega)⟩ ?_ ?_⟩
    rotate_left
    · rintro _ H1 ⟨y1, y2, y3, y4, y5, y6, y7, y8, y9, rfl, g1, hb1⟩
      walk_at "w"
      exact q _ g1 (hb1.mono (by omega))
    rintro i _ H1 hi ⟨y1, y2, y3, y4, y5, y6, y7, y8, y9, rfl, g1, hb1⟩
    have hi : i < 3 := hi
    obtain ⟨m, em⟩ : ∃ m, m = n + (3 - (i + 1)) * 600 := ⟨_, rfl⟩
    rw [← em]
    have hb1 : Bx H1 b (m + 600) := hb1.mono (by omega)
    clear hb em
    walk_at "w"
    refine ⟨b, m + 360, 7, rfl, hb1.mono (by omega), by decide, by decide, fun v H2 es g2 hb2 tt va eo l90 => ?_⟩
    obtain ⟨a, ts, rfl, ha, hev⟩ := tt
    have tl : ts.length = es.length := hev.length
    have sev := folk_seven eo
    have g02 := g1.trans g2
    clear g1 g2 hb1
    walk_at "w"
    refine use_take (n := m + 359) hb2 (by omega) (by omega) (fun keep H5 k0 k1 g3 hb5 => ?_)
    have ha5 := g3.tup _ _ ha
    have hev5 := hev.gr g3
    have g05 := g02.trans g3
    clear hb2 ha hev g02 g3
    walk_at "w"
    refine ⟨⟨_, SqT.of ha5⟩, ?_⟩
    refine lc_go (walk_tup (K := K) (a := a) (xs := ts)) (fun S j acc H' => Gr [] H5 H' ∧ acc.length = kept (es.take j)) (fun S nS => ⟨Gr.new nS, rfl⟩) (fun S j acc H' _ ⟨g, _⟩ => SqT.of (g.tup _ _ ha5)) ?_ ?_
    · rintro S j acc x H6 H7 nS hj hS la ⟨g6, hk⟩ ⟨rfl, e1⟩
      obtain ⟨e, he, hep⟩ := pr_get hev5 e1
      obtain ⟨c, rfl, hc⟩ := hep.gr g6
      have kt : kept (es.take (j + 1)) = kept (es.take j) + e.kept := by rw [take_snoc he, kept_snoc]
      walk_at "w"
      refine ⟨rfl, ?_⟩
      walk_at "w"
      refine WK.w_ixT hc e.at0 ?_
      walk_at "w"
      have no : e.kept = 0 → LcW (fun S j acc H' => Gr [] H5 H' ∧ acc.length = kept (es.take j)) S (j + 1) H7 := fun z =>
        lc_no hS la ⟨g6, by rw [kt, hk, z]; rfl⟩
      cases e with
      | save r =>
        refine WK.w_ifP (decide_eq_true rfl) ?_
        walk_at "w"
        exact lc_yes hS la (by omega) ⟨g6.own (Gr.mutL hS (by simp)) nS, by rw [kt, List.length_append, hk]; rfl⟩
      | _ => exact WK.w_ifN (fun z => absurd (of_decide_eq_true z) (by dsimp only [Ev.word]; decide +kernel)) (no rfl)
    rintro S6 acc6 H6 nS6 hS6 la6 ⟨g6, hk⟩
    rw [tl, List.take_length] at hk
    walk_at "w"
    rw [hk]
    have kl := kept_le es
    have ha6 := g6.tup _ _ ha5
    have hev6 := hev5.gr g6
    have hb6 := hb5.keep g6 (by simp)
    have g06 := g05.trans (g6.mono (by simp))
    clear hS6 la6 hk nS6 ha5 hev5 hb5 g05 g6
    refine ⟨by omega, by omega, ?_⟩
    rw [Int.toNat_natCast]
    refine lc_go (walk_range (lo := 0) (n := kept es)) (fun C j acc H' => Gr [] H6 H' ∧ Tps H' acc (copyV j)) (fun C nC => ⟨Gr.new nC, .nil⟩) (fun _ _ _ _ _ _ => trivial) ?_ ?_
    · rintro C j ac x H10 H11 nC hj hC lc ⟨g10, ht3⟩ ⟨rfl, rfl⟩
      walk_at "w"
      refine ⟨rfl, ?_⟩
      walk_at "w"
      refine WK.w_ifP rfl ?_
      walk_at "w"
      refine ⟨WK.sz, fun t nt => ?_⟩
      rw [Int.zero_add]
      have g4 : Gr [] H11 (upd H11 t (.tup [.str "copy", .int (j : Nat)])) := Gr.new nt
      have hC4 := g4.k0 hC
      have g5 : Gr [C] (upd H11 t (.tup [.str "copy", .int (j : Nat)])) _ := Gr.mutL (o := .lst (ac ++ [.ref t])) hC4 (by simp)
      refine lc_yes hC4 lc (by omega) ⟨(g10.trans g4).own g5 nC, ?_⟩
      unfold copyV
      rw [List.range_succ, List.map_append]
      exact pr_append ((ht3.gr g4).gr g5) (.cons ⟨t, rfl, g5.tup _ _ upd_same⟩ .nil)
    rintro C10 ac H7 nC hC lc ⟨g7, hac⟩
    have ha7 := g7.tup _ _ ha6
    have hev7 := hev6.gr g7
    have hb7 := hb6.keep g7 (by simp)
    have g07 := g06.trans (g7.mono (by simp))
    clear ha6 hev6 hb6 g06 g7 nC
    walk_at "w"
    refine ⟨⟨_, SqT.of ha7⟩, ?_⟩
    refine lc_go (walk_tup (K := K) (a := a) (xs := ts)) (fun D j ac H' => Gr [] H7 H' ∧ ac = (folk (es.take j)).map V.int) (fun D nD => ⟨Gr.new nD, rfl⟩) (fun _ _ _ _ _ ⟨g, _⟩ => SqT.of (g.tup _ _ ha7)) ?_ ?_
    · rintro D j ac x H8 H9 nD hj hD lb ⟨g7, rfl⟩ ⟨rfl, e1⟩
      obtain ⟨e, he, hep⟩ := pr_get hev7 e1
      obtain ⟨c, rfl, hc⟩ := hep.gr g7
      have ft : folk (es.take (j + 1)) = folk (es.take j) ++ e.who := by rw [take_snoc he, folk_snoc]
      walk_at "w"
      refine ⟨rfl, ?_⟩
      walk_at "w"
      refine WK.w_ixT hc e.at0 ?_
      walk_at "w"
      refine ⟨WK.sz, fun z nz => ?_⟩
      refine WK.w_inT upd_same rfl rfl ?_
      walk_at "w"
      have g8 : Gr [] H9 (upd H9 z (.tup [.str "join", .str "load"])) := Gr.new nz
      have hc8 := g8.tup _ _ hc
      have hD8 := g8.k0 hD
      have g78 := g7.trans g8
      generalize (upd H9 z (.tup [.str "join", .str "load"])) = H10 at *
      have no : e.who = [] → LcW (fun D j ac H' => Gr [] H7 H' ∧ ac = (folk (es.take j)).map V.int) D (j + 1) H10 := fun z =>
        lc_no hD8 lb ⟨g78, by rw [ft, z, List.append_nil]⟩
      have yes : ∀ r, e.who = [r] → LcY (fun D j ac H' => Gr [] H7 H' ∧ ac = (folk (es.take j)).map V.int) D j (.int r) H10 := fun r z =>
        lc_yes hD8 lb (by omega) ⟨g78.own (Gr.mutL hD8 (by simp)) nD, by rw [ft, z, List.map_append]; rfl⟩
      cases e with
      | join r =>
        dsimp only [Ev.word]
        refine WK.w_ifP (by decide +kernel) ?_
        walk_at "w"
        exact yes r rfl
      | load r c0 =>
        dsimp only [Ev.word]
        refine WK.w_ifP (by decide +kernel) ?_
        walk_at "w"
        exact yes r rfl
      | _ => exact WK.w_ifN (by dsimp only [Ev.word]; decide +kernel) (no rfl)
    rintro D7 ac7 H8 nD7 hD7 lb7 ⟨g8, rfl⟩
    rw [tl, List.take_length] at hD7 lb7
    rw [List.length_map] at lb7
    walk_at "w"
    refine ⟨D7, folk es, rfl, SqL.of hD7, by omega, fun p S1 n1 mem hS1 np => ?_⟩
    walk_at "w"
    refine ⟨p, S1, n1, rfl, upd_same, ?_, fun ns p2 pw hm hln np2 => ?_⟩
    · obtain ⟨ms, nd, e, hm⟩ := mem
      have := nodup_le nd fun k hk => sev k ((hS1 k).mp ((hm k).mpr hk))
      have : seven.length = 7 := rfl
      omega
    have row : Row es ns := ⟨pw, fun k => (hm k).trans (hS1 k)⟩
    have nsl := Row.short row sev
    have g9 : Gr [] H8 (upd (upd H8 p (SetO _ p S1 n1)) p2 (.lst (ns.map V.int))) := (Gr.new np).trans (Gr.new np2)
    have hp2 : (upd (upd H8 p (SetO (cxOf CX0 P w K mg base N_law_right (Str.ofString "_law_right") (defScope s_law_right) f cdv A outer s H E).w p S1 n1)) p2 (.lst (ns.map V.int))) p2 = some (.lst (ns.map V.int)) := upd_same
    generalize (upd (upd H8 p (SetO _ p S1 n1)) p2 (.lst (ns.map V.int))) = H9 at *
    have g79 := g8.trans g9
    clear mem hm hS1 pw hln g8 g9 hD7 lb7 nD7 np np2
    walk_at "w"
    refine ⟨⟨_, SqL.of hp2⟩, ?_⟩
    have tL : (ns.map V.int).length = ns.length := List.length_map _
    refine lc_go (walk_list (K := K) (a := p2) (xs := ns.map V.int)) (fun D j acc H' => Gr [] H9 H' ∧ Tps H' acc (manV (ns.take j))) (fun D nD => ⟨Gr.new nD, .nil⟩) (fun _ _ _ _ _ ⟨g, _⟩ => SqL.of (g.k0 hp2)) ?_ ?_
    · rintro D j bs x H11 H12 nD hj hD lb ⟨g5, ht5⟩ ⟨rfl, e1⟩
      rw [List.getElem?_map] at e1
      have hj : j < ns.length := by omega
      have ej : ns[j]? = some ns[j] := List.getElem?_eq_getElem hj
      rw [ej] at e1
      cases e1
      walk_at "w"
      refine ⟨rfl, ?_⟩
      walk_at "w"
      refine WK.w_ifP rfl ?_
      walk_at "w"
      refine ⟨WK.sz, fun t nt => ?_⟩
      have g6 : Gr [] H12 (upd H12 t (.tup [.str "reader", .int ns[j]])) := Gr.new nt
      have hD6 := g6.k0 hD
      have g7 : Gr [D] (upd H12 t (.tup [.str "reader", .int ns[j]])) _ := Gr.mutL (o := .lst (bs ++ [.ref t])) hD6 (by simp)
      refine lc_yes hD6 lb (by omega) ⟨(g5.trans g6).own g7 nD, ?_⟩
      rw [take_snoc ej]
      unfold manV
      rw [List.map_append]
      exact pr_append ((ht5.gr g6).gr g7) (.cons ⟨t, rfl, g7.tup _ _ upd_same⟩ .nil)
    rintro B bs3 H11 nB hB lb ⟨g11, hbs⟩
    rw [tL, List.take_length] at hbs
    have g711 := g79.trans g11
    walk_at "w"
    refine ⟨C10, B, ac, bs3, rfl, rfl, g711.k0 hC, hB, Nat.le_of_lt (WK.sz' (by omega)), fun d3 nd3 => ?_⟩
    have g12 : Gr [] H11 (upd H11 d3 (.lst (ac ++ bs3))) := Gr.new nd3
    have hd3 : (upd H11 d3 (.lst (ac ++ bs3))) d3 = some (.lst (ac ++ bs3)) := upd_same
    have td3 : Tps (upd H11 d3 (.lst (ac ++ bs3))) (ac ++ bs3) (copyV (kept es) ++ manV ns) := pr_append ((hac.gr g711).gr g12) (hbs.gr g12)
    generalize (upd H11 d3 (.lst (ac ++ bs3))) = H12 at *
    rw [← allG_rows] at td3
    have g712 := g711.trans g12
    have gO := allG_ok row sev
    have gL : (allG (kept es) ns).length ≤ 107 := by
      unfold allG
      rw [List.length_append, List.length_map, List.length_map, List.length_range]
      omega
    generalize ac ++ bs3 = everys at *
    have gd3 : GdRows H12 everys (allG (kept es) ns) := pr_unmap (F := fun x y => ∃ c, x = V.ref c ∧ H12 c = some (.tup y)) gdV td3
    have eL : everys.length = (allG (kept es) ns).length := gd3.length
    generalize allG (kept es) ns = G at *
    have tt12 : IsTT H12 (.ref a) es := ⟨a, ts, rfl, g712.tup _ _ ha7, hev7.gr g712⟩
    have hb12 := hb7.keep g712 (by simp)
    have g012 := g07.trans (g712.mono (by simp))
    have d3b : d3 ≠ b := fun e => by
      obtain ⟨z, hz⟩ := (hb7.keep g711 (by simp)).lst
      rw [← e, nd3] at hz
      cases hz
    clear g11 g12 g711 g712 g79 ha7 hev7 hb7 g07 hac hbs hC hB nB lb lc hp2 nd3 td3 row nsl tL
    walk_at "w"
    refine ⟨b, .ref a, es, m + 39, rfl, hb12, tt12, by omega, fun a2 xs2 bs H13 g13 hb13 h2 t2 so bl => ?_⟩
    have sw13 : SwT H13 a2 bs := ⟨xs2, h2, t2⟩
    have tt13 := tt12.gr g13
    have hd13 := g13.k1 hd3 d3b
    have gd13 := gd3.gr g13
    have g013 := g012.trans g13
    clear tt12 hb12 g012 g13 hd3 gd3 h2 t2 d3b
    walk_at "w"
    have hj : 0 ≤ ((if ((everys.length : Nat) : Int) < 4 then ((everys.length : Nat) : Int) else 4) + 1) ∧ ((if ((everys.length : Nat) : Int) < 4 then ((everys.length : Nat) : Int) else 4) + 1) ≤ 5 := by
      split <;> omega
    generalize ((if ((everys.length : Nat) : Int) < 4 then ((everys.length : Nat) : Int) else 4) + 1) = jj at *
    refine ⟨by omega, by omega, ?_⟩
    refine lp_range (n := jj.toNat) (fun k σ' H' => ∃ y7 y8 y9, σ' = [some (.ref b), some (.int (0 + (i : Int))), some (.ref a), some (.int keep), some (.int (kept es : Nat)), some (.ref d3), some (.ref a2), y7, y8, y9, none, none, none] ∧ Gr [] H13 H')
      ⟨_, _, _, rfl, Gr.refl _ _⟩ ?_ ?_
    · rintro k _ H14 hk ⟨y7, y8, y9, rfl, g14⟩
      have k4 : k ≤ 4 := by omega
      walk_at "w"
      rw [Int.zero_add]
      refine ⟨d3, everys, G, k, rfl, g14.k0 hd13, GdRows.gr gd13 g14, gL, k4, k4, fun r ys H15 g15 nr hr15 ty => ?_⟩
      walk_at "w"
      refine ⟨r, ys, rfl, SqL.of hr15, fun T nT => ?_⟩
      rw [show cutV ys none (some 4) = ys.take 4 from cut_upto ys 4]
      have g16 : Gr [] H15 (upd H15 T (.lst (ys.take 4))) := Gr.new nT
      have hT : (upd H15 T (.lst (ys.take 4))) T = some (.lst (ys.take 4)) := upd_same
      have ty16 : GdTups (upd H15 T (.lst (ys.take 4))) (ys.take 4) ((setsL G k).take 4) := GdTups.gr (pr_take 4 ty) g16
      have g1316 := (g14.trans g15).trans g16
      generalize (upd H15 T (.lst (ys.take 4))) = H16 at *
      clear ty hr15 g14 g15 g16 nr nT
      refine ⟨T, rfl, ⟨_, SqL.of hT⟩, ?_⟩
      refine lp_list (xs := ys.take 4) (fun j σ' H' => ∃ y8 y9, σ' = [some (.ref b), some (.int (0 + (i : Int))), some (.ref a), some (.int keep), some (.int (kept es : Nat)), some (.ref d3), some (.ref a2), some (.int (k : Int)), y8, y9, none, none, none] ∧ Gr [] H16 H')
        ⟨_, _, rfl, Gr.refl _ _⟩ (fun j σ' H' _ ⟨_, _, _, g⟩ => SqL.of (g.k0 hT)) ?_ ?_
      · rintro j x _ H17 ex ⟨y8, y9, rfl, g17⟩
        obtain ⟨gs, f1, f2⟩ := pr_get ty16 ex
        obtain ⟨t, rfl, gt0⟩ := f2.t
        obtain ⟨n1, n2⟩ := setsL_in (List.mem_of_mem_take (List.mem_of_getElem? f1))
        have gO' : ∀ g ∈ gs, GdO g := fun g hg => gO g (n2 g hg)
        have g0 : ∀ g ∈ gs, 0 ≤ g.2 := fun g hg => (gO' g hg).n
        have gl : gs.length ≤ 1000 := by omega
        have g1317 := g1316.trans g17
        have tt17 := tt13.gr g1317
        have sw17 := sw13.gr g1317
        have gt17 := gt0.gr g17
        have ed := ed_fin (h := keep) (gs := gs) va so eo l90 g0
        clear f1 f2 n2 gt0 ex
        walk_at "w"
        refine ⟨.ref a, .ref a2, .ref t, keep, es, bs, gs, rfl, TabQ.of_tt tt17, sw17.q, gt17.q, by omega, gl, g0, runs_of va so keep gs, fun p A1 L1 H18 g18 np l18 nw18 => ?_⟩
        walk_at "w"
        refine ⟨p, A1, L1, finL es keep bs gs, rfl, l18, ed, fun y H19 g19 dp19 => ?_⟩
        have g1719 := g18.trans g19
        have tt19 := tt17.gr g1719
        have sw19 := sw17.gr g1719
        have gt19 := gt17.gr g1719
        clear l18 nw18 np g18 g19
        walk_at "w"
        walk_at "i"
        refine ⟨.ref a, .ref t, a2, keep, es, bs, gs, rfl, tt19, va, l90, sw19, so, .inr ⟨t, rfl, gt19⟩, gO', gl, fun A2 m2 L2 cd2 hs2 H20 nw2 ma2 mt2 => ?_⟩
        have g20 := nw2.g
        walk_at "w"
        refine ⟨A2, m2, L2, cd2, hs2, finL es keep bs gs, rfl, ma2, mt2, ed, fun y2 H21 g21 dp21 => ?_⟩
        walk_at "w"
        refine ⟨y, y2, endD (finL es keep bs gs), rfl, dp_gr (g20.trans g21) _ dp19, dp21, end_fine ed, by decide, fun H22 g22 => ?_⟩
        refine ⟨true, rfl, ?_⟩
        walk_at "w"
        refine WK.w_ifN (by decide) ?_
        walk_at "w"
        exact ⟨_, _, rfl, ((g17.trans g1719).trans (g20.trans g21)).trans g22⟩
      · rintro _ H17 ⟨y8, y9, rfl, g17⟩
        exact ⟨_, _, _, by rw [Int.zero_add], g1316.trans g17⟩
    · rintro _ H14 ⟨y7, y8, y9, rfl, g14⟩
      have tt14 := tt13.gr g14
      have so0 : SwOk es [] := ⟨.nil, by simp⟩
      have ed := ed_fin (h := keep) (gs := []) va so0 eo l90 (by simp)
      walk_at "w"
      walk_at "i"
      refine ⟨.ref a, .ref e1, .ref e2, keep, es, [], [], rfl, TabQ.of_tt tt14, ⟨e1, [], rfl, .inr (z1 _), .nil⟩, ⟨e2, [], rfl, .inr (z2 _), .nil⟩, by omega, by simp, by simp, runs_of va so0 keep [], fun p A1 L1 H18 g18 np l18 nw18 => ?_⟩
      walk_at "w"
      refine ⟨p, A1, L1, finL es keep [] [], rfl, l18, ed, fun y H19 g19 dp19 => ?_⟩
      have g1419 := g18.trans g19
      walk_at "w"
      refine ⟨WK.sz, fun t1 nt1 => ?_⟩
      have g20 : Gr [] H19 (upd H19 t1 (.tup [])) := Gr.new nt1
      have ht1 : (upd H19 t1 (.tup [])) t1 = some (.tup []) := upd_same
      generalize (upd H19 t1 (.tup [])) = H20 at *
      walk_at "w"
      refine ⟨.ref a, .non, t1, keep, es, [], [], rfl, tt14.gr (g1419.trans g20), va, l90, ⟨[], ht1, .nil⟩, so0, .inl ⟨rfl, rfl⟩, by simp, by simp, fun A2 m2 L2 cd2 hs2 H21 nw2 ma2 mt2 => ?_⟩
      have g21 := nw2.g
      walk_at "w"
      refine ⟨A2, m2, L2, cd2, hs2, finL es keep [] [], rfl, ma2, mt2, ed, fun y2 H22 g22 dp22 => ?_⟩
      have g1922 := (g20.trans g21).trans g22
      walk_at "w"
      refine ⟨y, y2, endD (finL es keep [] []), rfl, dp_gr g1922 _ dp19, dp22, end_fine ed, by decide, fun H23 g23 => ?_⟩
      refine ⟨true, rfl, ?_⟩
      walk_at "w"
      refine WK.w_ifN (by decide) ?_
      walk_at "w"
      have g1323 := (g14.trans (g1419.trans g1922)).trans g23
      exact ⟨_, _, _, _, _, _, _, _, _, rfl, g013.trans (g1323.mono (by simp)), (hb13.keep g1323 (by simp)).mono (by omega)⟩

end
end PK
namespace PK
open PySem L2
section
variable {P : Program} {w : World} {K : PySem.W.Frag} {mg : Str → Option Value} {base : Heap}
abbrev s_law : Stmt := topS 36
abbrev N_law : List Str := ["_law_script", "_law_k"]
abbrev ps_law : List Str := ["_law_script"]
theorem sc_law : FnScope N_law ps_law (defScope s_law) := ⟨rfl, rfl, rfl, by decide +kernel, rfl, by decide +kernel, by decide +kernel⟩
def spLaw (K : PySem.W.Frag) : Sp := fun vs H Q _ => ∃ (a : Addr) (ns : List Int), vs = [.ref a] ∧ SqL K H a (ns.map V.int) ∧ ns.length ≤ 63 ∧ ∀ H', Q (.bl true) H'
theorem ok_law {f : Addr} {fd : FuncData} (F : Fun K "law" "law" s_law f fd) (T : Txt mg) (G_law_box : Has P w K mg base 1 "_law_box" ps_law_box (spBox K)) (G_law_right : Has P w K mg base 9 "_law_right" ps_law_right spRight) : FnOk P w K mg base CX0 10 f fd ps_law (spLaw K) := by
  refine F.ok sc_law (fun vs H Q E h => ?_) (fun cdv A outer s H vs Q E hr h => ?_)
  · obtain ⟨a, ns, rfl, _⟩ := h
    rfl
  · obtain ⟨a, ns, rfl, ha, hl, q⟩ := h
    refine ⟨_, (pss_one (ps_ret (pe_callB (cr_allK (K := K) rfl) (by rfl) T.m_all (by decide +kernel) (pa_cons (pe_lc (own := [("_law_k", 1)]) (g := gName 1)  rfl sc_law.nd (pi_range1 (by rfl) T.m_range (pa_cons (pe_op op_add pe_int (pe_callB (call_min2 rfl) (by rfl) T.m_min (by decide +kernel) (pa_cons pe_int (pa_cons (pe_callB (call_len_seqK (K := K)) (by rfl) T.m_len (by decide +kernel) (pa_cons (pv 0) pa_nil)) pa_nil)))) pa_nil)) (blkOk_by (own := [("_law_k", 1)]) (N := N_law) (sc := defScope s_law) (by decide +kernel)) (fun _ _ _ _ _ => pg_name (i := 1) sc_law.nd rfl (Or.inl rfl)) (fun _ _ _ _ _ => pts_nil) (fun _ _ _ _ _ => (pe_callH G_law_right (hr.mono (by decide)) (by rfl) (pa_cons (pe_callH G_law_box (hr.mono (by decide)) (by rfl) (pa_cons (pv 0) (pa_cons (pv 1) pa_nil))) pa_nil)))) pa_nil)))), ?_⟩
    walk_at "w"
    refine ⟨a, _, rfl, .inl ha, ?_⟩
    rw [List.length_map]
    walk_at "w"
    have hj : 0 ≤ (1 + if ((ns.length : Nat) : Int) < 2 then ((ns.length : Nat) : Int) else 2) ∧ (1 + if ((ns.length : Nat) : Int) < 2 then ((ns.length : Nat) : Int) else 2) ≤ 3 := by
      split <;> omega
    generalize (1 + if ((ns.length : Nat) : Int) < 2 then ((ns.length : Nat) : Int) else 2) = j at *
    refine ⟨by omega, by omega, ?_⟩
    refine lc_go (walk_range (lo := 0) (n := j.toNat)) (fun D i acc H' => Gr [] H H' ∧ acc = (List.replicate i true).map V.bl) (fun D nD => ⟨Gr.new nD, rfl⟩) (fun _ _ _ _ _ _ => trivial) ?_ ?_
    · rintro D i ac x H2 H3 nD hi hD la ⟨g2, rfl⟩ ⟨rfl, rfl⟩
      walk_at "w"
      refine ⟨rfl, ?_⟩
      walk_at "w"
      refine WK.w_ifP rfl ?_
      walk_at "w"
      rw [Int.zero_add]
      refine ⟨a, ns, i, rfl, sqL_gr g2 (by simp) ha, hl, by omega, fun b H4 nb g4 hb => ?_⟩
      walk_at "w"
      refine ⟨b, 898000, rfl, hb, fun H5 g5 hb5 => ?_⟩
      dsimp only
      have bD : D ≠ b := fun e => by
        rw [← e, hD] at nb
        cases nb
      have hD5 := g5.k1 (g4.k0 hD) bD
      have g35 : Gr [] H3 H5 := g4.own g5 nb
      refine lc_yes hD5 la (by omega) ⟨(g2.trans g35).own (Gr.mutL hD5 (by simp)) nD, ?_⟩
      rw [List.replicate_succ', List.map_append]
      rfl
    · rintro D ac H2 nD hD la ⟨g2, rfl⟩
      walk_at "w"
      refine ⟨D, _, rfl, SqL.of hD, ?_⟩
      rw [List.all_replicate, show (if j.toNat = 0 then true else id true) = true from by split <;> rfl]
      exact q _

end
end PK
namespace PK
open PySem PySem.Spec PyProof.Rows L2
section
variable {K : PySem.W.Frag} {mg : Str → Option Value}
theorem df_of {h : Heap} {x : Str} {st : Stmt} {f : Addr} {ps : List Str} {od an : Option Addr} {sl : Array (Option Value)} {oc kV dc pm cd ct : Value} (X : K.In h) (G : h.Ns mainGlobals mg) (a : PySem.W.nsIn K mainGlobals x = some (some (.ref f))) (l : K.lookup f = some ⟨oc, od, .func (PySem.W.fnOf x x (defArgs st) (defBody st) (defScope st) .none kV dc pm an cd ct), sl⟩)
    (c : PySem.W.codeIn K cd x = true) (k : PySem.W.keepIn K (.ref f) = true) (b : ∀ (kV dc pm : Value) (an : Option Addr) (cd ct : Value) (us : List Value), us.length = ps.length → bindArgs (PySem.W.fnOf x x (defArgs st) (defBody st) (defScope st) .none kV dc pm an cd ct) ⟨us, []⟩ = pure (ps.zip us)) : Df K mg x st ps :=
  ⟨f, _, fun_mk l c k, PySem.W.mg_of X G a, (fun_mk l c k).binds b⟩
theorem df1_of {h : Heap} {x p : Str} {st : Stmt} {f : Addr} {od an : Option Addr} {sl : Array (Option Value)} {oc kV dc pm cd ct : Value} (X : K.In h) (G : h.Ns mainGlobals mg) (a : PySem.W.nsIn K mainGlobals x = some (some (.ref f))) (l : K.lookup f = some ⟨oc, od, .func (PySem.W.fnOf x x (defArgs st) (defBody st) (defScope st) .none kV dc pm an cd ct), sl⟩)
    (c : PySem.W.codeIn K cd x = true) (k : PySem.W.keepIn K (.ref f) = true) (b : ∀ (kV dc pm : Value) (an : Option Addr) (cd ct : Value) (us : List Value), us.length = 1 → bindArgs (PySem.W.fnOf x x (defArgs st) (defBody st) (defScope st) .none kV dc pm an cd ct) ⟨us, []⟩ = pure ([p].zip us))
    (e : ∀ u : Value, bindArgs (PySem.W.fnOf x x (defArgs st) (defBody st) (defScope st) .none kV dc pm an cd ct) ⟨[], [(p, u)]⟩ = pure [(p, u)]) : Df1 K mg x st [p] :=
  ⟨f, _, fun_mk l c k, PySem.W.mg_of X G a, (fun_mk l c k).binds b, ⟨fun s us ws _ hl => by
    match us, ws, hl with
    | [], [u], _ => exact .of_eq (e u), fun h h' => kv1_rel h h'⟩⟩
section
variable {h : Heap} {x q : Str} {st : Stmt} {f T E1 E2 : Addr} {od an td : Option Addr} {sl ts : Array (Option Value)} {oc kV dc pm cd ct tc : Value} {tn : Nat}
theorem fund1 (l : K.lookup f = some ⟨oc, od, .func (PySem.W.fnOf x q (defArgs st) (defBody st) (defScope st) (.ref T) kV dc pm an cd ct), sl⟩) (c : PySem.W.codeIn K cd q = true) (k : PySem.W.keepIn K (.ref f) = true) (t : K.lookup T = some ⟨tc, td, .seq #[.ref E1] tn, ts⟩) :
    FunD K x q (defArgs st) (defBody st) (defScope st) [.ref E1] [] f (PySem.W.fnOf x q (defArgs st) (defBody st) (defScope st) (.ref T) kV dc pm an cd ct) :=
  ⟨⟨oc, od, .ref T, kV, dc, pm, an, cd, ct, sl, rfl, l, c, .inr ⟨by simp, T, _, [.ref E1], tn, rfl, t, rfl, .cons rfl .nil⟩, .inl rfl⟩, k⟩
theorem fund2 (l : K.lookup f = some ⟨oc, od, .func (PySem.W.fnOf x q (defArgs st) (defBody st) (defScope st) (.ref T) kV dc pm an cd ct), sl⟩) (c : PySem.W.codeIn K cd q = true) (k : PySem.W.keepIn K (.ref f) = true) (t : K.lookup T = some ⟨tc, td, .seq #[.ref E1, .ref E2] tn, ts⟩) :
    FunD K x q (defArgs st) (defBody st) (defScope st) [.ref E1, .ref E2] [] f (PySem.W.fnOf x q (defArgs st) (defBody st) (defScope st) (.ref T) kV dc pm an cd ct) :=
  ⟨⟨oc, od, .ref T, kV, dc, pm, an, cd, ct, sl, rfl, l, c, .inr ⟨by simp, T, _, [.ref E1, .ref E2], tn, rfl, t, rfl, .cons rfl (.cons rfl .nil)⟩, .inl rfl⟩, k⟩
theorem fundN (l : K.lookup f = some ⟨oc, od, .func (PySem.W.fnOf x q (defArgs st) (defBody st) (defScope st) (.ref T) kV dc pm an cd ct), sl⟩) (c : PySem.W.codeIn K cd q = true) (k : PySem.W.keepIn K (.ref f) = true) (t : K.lookup T = some ⟨tc, td, .seq #[.none] tn, ts⟩) :
    FunD K x q (defArgs st) (defBody st) (defScope st) [.non] [] f (PySem.W.fnOf x q (defArgs st) (defBody st) (defScope st) (.ref T) kV dc pm an cd ct) :=
  ⟨⟨oc, od, .ref T, kV, dc, pm, an, cd, ct, sl, rfl, l, c, .inr ⟨by simp, T, _, [.none], tn, rfl, t, rfl, .cons rfl .nil⟩, .inl rfl⟩, k⟩
theorem nilT (e : K.lookup E1 = some ⟨.type "tuple", td, .seq #[] tn, ts⟩) (H : Hp) : SqT K H E1 [] := .inr ⟨_, #[], tn, e, rfl, rfl, by decide, .nil⟩
end
section
variable {f E1 E2 : Addr} {fd : FuncData}
theorem init3 (F : FunD K "__init__" "Log.__init__" (defArgs s_Log___init__) (defBody s_Log___init__) (defScope s_Log___init__) [.ref E1] [] f fd) : Binds K fd ps_Log___init__ [] := by
  obtain ⟨ds, r, b⟩ := F.binds1 (ps := ps_Log___init__) 3 1 (by simp) rfl fun _ _ _ _ _ _ _ us its h1 h2 => match us, its, h1, h2 with
    | [_, _, _], [_], _, _ => ⟨_, rfl, rfl⟩
  have r : Vals [] ds := r
  cases r
  exact b
theorem run4 (F : FunD K "run" "run" (defArgs s_run) (defBody s_run) (defScope s_run) [.ref E1, .ref E2] [] f fd) : Binds K fd ps_run [] := by
  obtain ⟨ds, r, b⟩ := F.binds1 (ps := ps_run) 4 2 (by simp) rfl fun _ _ _ _ _ _ _ us its h1 h2 => match us, its, h1, h2 with
    | [_, _, _, _], [_, _], _, _ => ⟨_, rfl, rfl⟩
  have r : Vals [] ds := r
  cases r
  exact b
theorem run2 (F : FunD K "run" "run" (defArgs s_run) (defBody s_run) (defScope s_run) [.ref E1, .ref E2] [] f fd) : ∃ ds, Vals [.ref E1, .ref E2] ds ∧ Binds K fd ps_run ds :=
  F.binds1 (ps := ps_run) 2 0 (by simp) rfl fun _ _ _ _ _ _ _ us its h1 h2 => match us, its, h1, h2 with
    | [_, _], [_, _], _, _ => ⟨_, rfl, rfl⟩
theorem lr4 (F : FunD K "_law_run" "_law_run" (defArgs s_law_run) (defBody s_law_run) (defScope s_law_run) [.non] [] f fd) : Binds K fd ps_law_run [] := by
  obtain ⟨ds, r, b⟩ := F.binds1 (ps := ps_law_run) 4 1 (by simp) rfl fun _ _ _ _ _ _ _ us its h1 h2 => match us, its, h1, h2 with
    | [_, _, _, _], [_], _, _ => ⟨_, rfl, rfl⟩
  have r : Vals [] ds := r
  cases r
  exact b
theorem lr3 (F : FunD K "_law_run" "_law_run" (defArgs s_law_run) (defBody s_law_run) (defScope s_law_run) [.non] [] f fd) : ∃ ds, Vals [.non] ds ∧ Binds K fd ps_law_run ds :=
  F.binds1 (ps := ps_law_run) 3 0 (by simp) rfl fun _ _ _ _ _ _ _ us its h1 h2 => match us, its, h1, h2 with
    | [_, _, _], [_], _, _ => ⟨_, rfl, rfl⟩
end
end
theorem all_mk {l : PySem.W.OpenLaw} {w : World} {K : PySem.W.Frag} {h : Heap} {mg : Str → Option Value} {fa : Addr} (X : K.In h) (G : h.Ns mainGlobals mg) (hfa : mg "law" = some (.ref fa))
    {C_Log : Addr} (aC_Log : PySem.W.nsIn K mainGlobals "Log" = some (some (.ref C_Log))) (pg_Log : PySem.W.plainGet K C_Log Str.empty = true) (hd_Log : PySem.W.hasDictIn K C_Log = true) (po_Log : PySem.W.plainOver K C_Log = true) (sa_Log : PySem.W.findIn K (.ref C_Log) "__setattr__" = some (some (.builtin "object.__setattr__"))) (mk_Log : PySem.W.makesIn K C_Log = true) (kc_Log : PySem.W.keepIn K (.ref C_Log) = true) (n0_Log : PySem.W.findIn K (.ref C_Log) "_hold" = some none) (n1_Log : PySem.W.findIn K (.ref C_Log) "_guards" = some none) (n2_Log : PySem.W.findIn K (.ref C_Log) "_time" = some none) (n3_Log : PySem.W.findIn K (.ref C_Log) "_entries" = some none) (n4_Log : PySem.W.findIn K (.ref C_Log) "_gone" = some none) (n5_Log : PySem.W.findIn K (.ref C_Log) "_since" = some none) (n6_Log : PySem.W.findIn K (.ref C_Log) "_seats" = some none) (n7_Log : PySem.W.findIn K (.ref C_Log) "_tables" = some none) (n8_Log : PySem.W.findIn K (.ref C_Log) "_copies" = some none)
    {T0 : Addr} {E0_0 : Addr}
    {f0 : Addr} {od0 an0 : Option Addr} {sl0 : Array (Option Value)} {oc0 kV0 dc0 pm0 cd0 ct0 : Value} (a0 : PySem.W.findIn K (.ref C_Log) "__init__" = some (some (.ref f0))) (i0 : PySem.W.isFn K (.ref f0) = true) (l0 : K.lookup f0 = some ⟨oc0, od0, .func (PySem.W.fnOf "__init__" "Log.__init__" (defArgs s_Log___init__) (defBody s_Log___init__) (defScope s_Log___init__) (.ref T0) kV0 dc0 pm0 an0 cd0 ct0), sl0⟩) (c0 : PySem.W.codeIn K cd0 "Log.__init__" = true) (k0 : PySem.W.keepIn K (.ref f0) = true)
    {tc0 : Value} {td0 : Option Addr} {tn0 : Nat} {ts0 : Array (Option Value)} (t0 : K.lookup T0 = some ⟨tc0, td0, .seq #[.ref E0_0] tn0, ts0⟩)
    {ed0_0 : Option Addr} {en0_0 : Nat} {es0_0 : Array (Option Value)} (e0_0 : K.lookup E0_0 = some ⟨.type "tuple", ed0_0, .seq #[] en0_0, es0_0⟩)
    {f1 : Addr} {od1 an1 : Option Addr} {sl1 : Array (Option Value)} {oc1 kV1 dc1 pm1 cd1 ct1 : Value} (a1 : PySem.W.findIn K (.ref C_Log) "put" = some (some (.ref f1))) (i1 : PySem.W.isFn K (.ref f1) = true) (l1 : K.lookup f1 = some ⟨oc1, od1, .func (PySem.W.fnOf "put" "Log.put" (defArgs s_Log_put) (defBody s_Log_put) (defScope s_Log_put) .none kV1 dc1 pm1 an1 cd1 ct1), sl1⟩) (c1 : PySem.W.codeIn K cd1 "Log.put" = true) (k1 : PySem.W.keepIn K (.ref f1) = true)
    {f2 : Addr} {od2 an2 : Option Addr} {sl2 : Array (Option Value)} {oc2 kV2 dc2 pm2 cd2 ct2 : Value} (a2 : PySem.W.findIn K (.ref C_Log) "drop" = some (some (.ref f2))) (i2 : PySem.W.isFn K (.ref f2) = true) (l2 : K.lookup f2 = some ⟨oc2, od2, .func (PySem.W.fnOf "drop" "Log.drop" (defArgs s_Log_drop) (defBody s_Log_drop) (defScope s_Log_drop) .none kV2 dc2 pm2 an2 cd2 ct2), sl2⟩) (c2 : PySem.W.codeIn K cd2 "Log.drop" = true) (k2 : PySem.W.keepIn K (.ref f2) = true)
    {f3 : Addr} {od3 an3 : Option Addr} {sl3 : Array (Option Value)} {oc3 kV3 dc3 pm3 cd3 ct3 : Value} (a3 : PySem.W.findIn K (.ref C_Log) "join" = some (some (.ref f3))) (i3 : PySem.W.isFn K (.ref f3) = true) (l3 : K.lookup f3 = some ⟨oc3, od3, .func (PySem.W.fnOf "join" "Log.join" (defArgs s_Log_join) (defBody s_Log_join) (defScope s_Log_join) .none kV3 dc3 pm3 an3 cd3 ct3), sl3⟩) (c3 : PySem.W.codeIn K cd3 "Log.join" = true) (k3 : PySem.W.keepIn K (.ref f3) = true)
    {f4 : Addr} {od4 an4 : Option Addr} {sl4 : Array (Option Value)} {oc4 kV4 dc4 pm4 cd4 ct4 : Value} (a4 : PySem.W.findIn K (.ref C_Log) "read" = some (some (.ref f4))) (i4 : PySem.W.isFn K (.ref f4) = true) (l4 : K.lookup f4 = some ⟨oc4, od4, .func (PySem.W.fnOf "read" "Log.read" (defArgs s_Log_read) (defBody s_Log_read) (defScope s_Log_read) .none kV4 dc4 pm4 an4 cd4 ct4), sl4⟩) (c4 : PySem.W.codeIn K cd4 "Log.read" = true) (k4 : PySem.W.keepIn K (.ref f4) = true)
    {f5 : Addr} {od5 an5 : Option Addr} {sl5 : Array (Option Value)} {oc5 kV5 dc5 pm5 cd5 ct5 : Value} (a5 : PySem.W.findIn K (.ref C_Log) "save" = some (some (.ref f5))) (i5 : PySem.W.isFn K (.ref f5) = true) (l5 : K.lookup f5 = some ⟨oc5, od5, .func (PySem.W.fnOf "save" "Log.save" (defArgs s_Log_save) (defBody s_Log_save) (defScope s_Log_save) .none kV5 dc5 pm5 an5 cd5 ct5), sl5⟩) (c5 : PySem.W.codeIn K cd5 "Log.save" = true) (k5 : PySem.W.keepIn K (.ref f5) = true)
    {f6 : Addr} {od6 an6 : Option Addr} {sl6 : Array (Option Value)} {oc6 kV6 dc6 pm6 cd6 ct6 : Value} (a6 : PySem.W.findIn K (.ref C_Log) "load" = some (some (.ref f6))) (i6 : PySem.W.isFn K (.ref f6) = true) (l6 : K.lookup f6 = some ⟨oc6, od6, .func (PySem.W.fnOf "load" "Log.load" (defArgs s_Log_load) (defBody s_Log_load) (defScope s_Log_load) .none kV6 dc6 pm6 an6 cd6 ct6), sl6⟩) (c6 : PySem.W.codeIn K cd6 "Log.load" = true) (k6 : PySem.W.keepIn K (.ref f6) = true)
    {f7 : Addr} {od7 an7 : Option Addr} {sl7 : Array (Option Value)} {oc7 kV7 dc7 pm7 cd7 ct7 : Value} (a7 : PySem.W.findIn K (.ref C_Log) "wait" = some (some (.ref f7))) (i7 : PySem.W.isFn K (.ref f7) = true) (l7 : K.lookup f7 = some ⟨oc7, od7, .func (PySem.W.fnOf "wait" "Log.wait" (defArgs s_Log_wait) (defBody s_Log_wait) (defScope s_Log_wait) .none kV7 dc7 pm7 an7 cd7 ct7), sl7⟩) (c7 : PySem.W.codeIn K cd7 "Log.wait" = true) (k7 : PySem.W.keepIn K (.ref f7) = true)
    {f8 : Addr} {od8 an8 : Option Addr} {sl8 : Array (Option Value)} {oc8 kV8 dc8 pm8 cd8 ct8 : Value} (a8 : PySem.W.findIn K (.ref C_Log) "do" = some (some (.ref f8))) (i8 : PySem.W.isFn K (.ref f8) = true) (l8 : K.lookup f8 = some ⟨oc8, od8, .func (PySem.W.fnOf "do" "Log.do" (defArgs s_Log_do) (defBody s_Log_do) (defScope s_Log_do) .none kV8 dc8 pm8 an8 cd8 ct8), sl8⟩) (c8 : PySem.W.codeIn K cd8 "Log.do" = true) (k8 : PySem.W.keepIn K (.ref f8) = true)
    {f9 : Addr} {od9 an9 : Option Addr} {sl9 : Array (Option Value)} {oc9 kV9 dc9 pm9 cd9 ct9 : Value} (a9 : PySem.W.findIn K (.ref C_Log) "sweep" = some (some (.ref f9))) (i9 : PySem.W.isFn K (.ref f9) = true) (l9 : K.lookup f9 = some ⟨oc9, od9, .func (PySem.W.fnOf "sweep" "Log.sweep" (defArgs s_Log_sweep) (defBody s_Log_sweep) (defScope s_Log_sweep) .none kV9 dc9 pm9 an9 cd9 ct9), sl9⟩) (c9 : PySem.W.codeIn K cd9 "Log.sweep" = true) (k9 : PySem.W.keepIn K (.ref f9) = true)
    {f10 : Addr} {od10 an10 : Option Addr} {sl10 : Array (Option Value)} {oc10 kV10 dc10 pm10 cd10 ct10 : Value} (a10 : PySem.W.findIn K (.ref C_Log) "there" = some (some (.ref f10))) (i10 : PySem.W.isFn K (.ref f10) = true) (l10 : K.lookup f10 = some ⟨oc10, od10, .func (PySem.W.fnOf "there" "Log.there" (defArgs s_Log_there) (defBody s_Log_there) (defScope s_Log_there) .none kV10 dc10 pm10 an10 cd10 ct10), sl10⟩) (c10 : PySem.W.codeIn K cd10 "Log.there" = true) (k10 : PySem.W.keepIn K (.ref f10) = true)
    {f11 : Addr} {od11 an11 : Option Addr} {sl11 : Array (Option Value)} {oc11 kV11 dc11 pm11 cd11 ct11 : Value} (a11 : PySem.W.findIn K (.ref C_Log) "now" = some (some (.ref f11))) (i11 : PySem.W.isFn K (.ref f11) = true) (l11 : K.lookup f11 = some ⟨oc11, od11, .func (PySem.W.fnOf "now" "Log.now" (defArgs s_Log_now) (defBody s_Log_now) (defScope s_Log_now) .none kV11 dc11 pm11 an11 cd11 ct11), sl11⟩) (c11 : PySem.W.codeIn K cd11 "Log.now" = true) (k11 : PySem.W.keepIn K (.ref f11) = true)
    {f12 : Addr} {od12 an12 : Option Addr} {sl12 : Array (Option Value)} {oc12 kV12 dc12 pm12 cd12 ct12 : Value} (a12 : PySem.W.findIn K (.ref C_Log) "seat" = some (some (.ref f12))) (i12 : PySem.W.isFn K (.ref f12) = true) (l12 : K.lookup f12 = some ⟨oc12, od12, .func (PySem.W.fnOf "seat" "Log.seat" (defArgs s_Log_seat) (defBody s_Log_seat) (defScope s_Log_seat) .none kV12 dc12 pm12 an12 cd12 ct12), sl12⟩) (c12 : PySem.W.codeIn K cd12 "Log.seat" = true) (k12 : PySem.W.keepIn K (.ref f12) = true)
    {f13 : Addr} {od13 an13 : Option Addr} {sl13 : Array (Option Value)} {oc13 kV13 dc13 pm13 cd13 ct13 : Value} (a13 : PySem.W.findIn K (.ref C_Log) "table" = some (some (.ref f13))) (i13 : PySem.W.isFn K (.ref f13) = true) (l13 : K.lookup f13 = some ⟨oc13, od13, .func (PySem.W.fnOf "table" "Log.table" (defArgs s_Log_table) (defBody s_Log_table) (defScope s_Log_table) .none kV13 dc13 pm13 an13 cd13 ct13), sl13⟩) (c13 : PySem.W.codeIn K cd13 "Log.table" = true) (k13 : PySem.W.keepIn K (.ref f13) = true)
    {f14 : Addr} {od14 an14 : Option Addr} {sl14 : Array (Option Value)} {oc14 kV14 dc14 pm14 cd14 ct14 : Value} (a14 : PySem.W.findIn K (.ref C_Log) "last" = some (some (.ref f14))) (i14 : PySem.W.isFn K (.ref f14) = true) (l14 : K.lookup f14 = some ⟨oc14, od14, .func (PySem.W.fnOf "last" "Log.last" (defArgs s_Log_last) (defBody s_Log_last) (defScope s_Log_last) .none kV14 dc14 pm14 an14 cd14 ct14), sl14⟩) (c14 : PySem.W.codeIn K cd14 "Log.last" = true) (k14 : PySem.W.keepIn K (.ref f14) = true)
    {f15 : Addr} {od15 an15 : Option Addr} {sl15 : Array (Option Value)} {oc15 kV15 dc15 pm15 cd15 ct15 : Value} (a15 : PySem.W.findIn K (.ref C_Log) "_is_dropped" = some (some (.ref f15))) (i15 : PySem.W.isFn K (.ref f15) = true) (l15 : K.lookup f15 = some ⟨oc15, od15, .func (PySem.W.fnOf "_is_dropped" "Log._is_dropped" (defArgs s_Log__is_dropped) (defBody s_Log__is_dropped) (defScope s_Log__is_dropped) .none kV15 dc15 pm15 an15 cd15 ct15), sl15⟩) (c15 : PySem.W.codeIn K cd15 "Log._is_dropped" = true) (k15 : PySem.W.keepIn K (.ref f15) = true)
    {f16 : Addr} {od16 an16 : Option Addr} {sl16 : Array (Option Value)} {oc16 kV16 dc16 pm16 cd16 ct16 : Value} (a16 : PySem.W.findIn K (.ref C_Log) "readers" = some (some (.ref f16))) (i16 : PySem.W.isFn K (.ref f16) = true) (l16 : K.lookup f16 = some ⟨oc16, od16, .func (PySem.W.fnOf "readers" "Log.readers" (defArgs s_Log_readers) (defBody s_Log_readers) (defScope s_Log_readers) .none kV16 dc16 pm16 an16 cd16 ct16), sl16⟩) (c16 : PySem.W.codeIn K cd16 "Log.readers" = true) (k16 : PySem.W.keepIn K (.ref f16) = true)
    {f17 : Addr} {od17 an17 : Option Addr} {sl17 : Array (Option Value)} {oc17 kV17 dc17 pm17 cd17 ct17 : Value} (a17 : PySem.W.findIn K (.ref C_Log) "wrong" = some (some (.ref f17))) (i17 : PySem.W.isFn K (.ref f17) = true) (l17 : K.lookup f17 = some ⟨oc17, od17, .func (PySem.W.fnOf "wrong" "Log.wrong" (defArgs s_Log_wrong) (defBody s_Log_wrong) (defScope s_Log_wrong) .none kV17 dc17 pm17 an17 cd17 ct17), sl17⟩) (c17 : PySem.W.codeIn K cd17 "Log.wrong" = true) (k17 : PySem.W.keepIn K (.ref f17) = true)
    {f18 : Addr} {od18 an18 : Option Addr} {sl18 : Array (Option Value)} {oc18 kV18 dc18 pm18 cd18 ct18 : Value} (a18 : PySem.W.findIn K (.ref C_Log) "_append" = some (some (.ref f18))) (i18 : PySem.W.isFn K (.ref f18) = true) (l18 : K.lookup f18 = some ⟨oc18, od18, .func (PySem.W.fnOf "_append" "Log._append" (defArgs s_Log__append) (defBody s_Log__append) (defScope s_Log__append) .none kV18 dc18 pm18 an18 cd18 ct18), sl18⟩) (c18 : PySem.W.codeIn K cd18 "Log._append" = true) (k18 : PySem.W.keepIn K (.ref f18) = true)
    {f19 : Addr} {od19 an19 : Option Addr} {sl19 : Array (Option Value)} {oc19 kV19 dc19 pm19 cd19 ct19 : Value} (a19 : PySem.W.findIn K (.ref C_Log) "_check_joined" = some (some (.ref f19))) (i19 : PySem.W.isFn K (.ref f19) = true) (l19 : K.lookup f19 = some ⟨oc19, od19, .func (PySem.W.fnOf "_check_joined" "Log._check_joined" (defArgs s_Log__check_joined) (defBody s_Log__check_joined) (defScope s_Log__check_joined) .none kV19 dc19 pm19 an19 cd19 ct19), sl19⟩) (c19 : PySem.W.codeIn K cd19 "Log._check_joined" = true) (k19 : PySem.W.keepIn K (.ref f19) = true)
    {f20 : Addr} {od20 an20 : Option Addr} {sl20 : Array (Option Value)} {oc20 kV20 dc20 pm20 cd20 ct20 : Value} (a20 : PySem.W.findIn K (.ref C_Log) "_end_event" = some (some (.ref f20))) (i20 : PySem.W.isFn K (.ref f20) = true) (l20 : K.lookup f20 = some ⟨oc20, od20, .func (PySem.W.fnOf "_end_event" "Log._end_event" (defArgs s_Log__end_event) (defBody s_Log__end_event) (defScope s_Log__end_event) .none kV20 dc20 pm20 an20 cd20 ct20), sl20⟩) (c20 : PySem.W.codeIn K cd20 "Log._end_event" = true) (k20 : PySem.W.keepIn K (.ref f20) = true)
    {f21 : Addr} {od21 an21 : Option Addr} {sl21 : Array (Option Value)} {oc21 kV21 dc21 pm21 cd21 ct21 : Value} (a21 : PySem.W.findIn K (.ref C_Log) "_let_marks_go" = some (some (.ref f21))) (i21 : PySem.W.isFn K (.ref f21) = true) (l21 : K.lookup f21 = some ⟨oc21, od21, .func (PySem.W.fnOf "_let_marks_go" "Log._let_marks_go" (defArgs s_Log__let_marks_go) (defBody s_Log__let_marks_go) (defScope s_Log__let_marks_go) .none kV21 dc21 pm21 an21 cd21 ct21), sl21⟩) (c21 : PySem.W.codeIn K cd21 "Log._let_marks_go" = true) (k21 : PySem.W.keepIn K (.ref f21) = true)
    {f22 : Addr} {od22 an22 : Option Addr} {sl22 : Array (Option Value)} {oc22 kV22 dc22 pm22 cd22 ct22 : Value} (a22 : PySem.W.findIn K (.ref C_Log) "_least_guard" = some (some (.ref f22))) (i22 : PySem.W.isFn K (.ref f22) = true) (l22 : K.lookup f22 = some ⟨oc22, od22, .func (PySem.W.fnOf "_least_guard" "Log._least_guard" (defArgs s_Log__least_guard) (defBody s_Log__least_guard) (defScope s_Log__least_guard) .none kV22 dc22 pm22 an22 cd22 ct22), sl22⟩) (c22 : PySem.W.codeIn K cd22 "Log._least_guard" = true) (k22 : PySem.W.keepIn K (.ref f22) = true)
    {T23 : Addr} {E23_0 : Addr} {E23_1 : Addr}
    {f23 : Addr} {od23 an23 : Option Addr} {sl23 : Array (Option Value)} {oc23 kV23 dc23 pm23 cd23 ct23 : Value} (a23 : PySem.W.nsIn K mainGlobals "run" = some (some (.ref f23))) (l23 : K.lookup f23 = some ⟨oc23, od23, .func (PySem.W.fnOf "run" "run" (defArgs s_run) (defBody s_run) (defScope s_run) (.ref T23) kV23 dc23 pm23 an23 cd23 ct23), sl23⟩) (c23 : PySem.W.codeIn K cd23 "run" = true) (k23 : PySem.W.keepIn K (.ref f23) = true)
    {tc23 : Value} {td23 : Option Addr} {tn23 : Nat} {ts23 : Array (Option Value)} (t23 : K.lookup T23 = some ⟨tc23, td23, .seq #[.ref E23_0, .ref E23_1] tn23, ts23⟩)
    {ed23_0 : Option Addr} {en23_0 : Nat} {es23_0 : Array (Option Value)} (e23_0 : K.lookup E23_0 = some ⟨.type "tuple", ed23_0, .seq #[] en23_0, es23_0⟩)
    {ed23_1 : Option Addr} {en23_1 : Nat} {es23_1 : Array (Option Value)} (e23_1 : K.lookup E23_1 = some ⟨.type "tuple", ed23_1, .seq #[] en23_1, es23_1⟩)
    {f24 : Addr} {od24 an24 : Option Addr} {sl24 : Array (Option Value)} {oc24 kV24 dc24 pm24 cd24 ct24 : Value} (a24 : PySem.W.nsIn K mainGlobals "_do_ahead_of" = some (some (.ref f24))) (l24 : K.lookup f24 = some ⟨oc24, od24, .func (PySem.W.fnOf "_do_ahead_of" "_do_ahead_of" (defArgs s_do_ahead_of) (defBody s_do_ahead_of) (defScope s_do_ahead_of) .none kV24 dc24 pm24 an24 cd24 ct24), sl24⟩) (c24 : PySem.W.codeIn K cd24 "_do_ahead_of" = true) (k24 : PySem.W.keepIn K (.ref f24) = true)
    {f25 : Addr} {od25 an25 : Option Addr} {sl25 : Array (Option Value)} {oc25 kV25 dc25 pm25 cd25 ct25 : Value} (a25 : PySem.W.nsIn K mainGlobals "_law_box" = some (some (.ref f25))) (l25 : K.lookup f25 = some ⟨oc25, od25, .func (PySem.W.fnOf "_law_box" "_law_box" (defArgs s_law_box) (defBody s_law_box) (defScope s_law_box) .none kV25 dc25 pm25 an25 cd25 ct25), sl25⟩) (c25 : PySem.W.codeIn K cd25 "_law_box" = true) (k25 : PySem.W.keepIn K (.ref f25) = true)
    {f26 : Addr} {od26 an26 : Option Addr} {sl26 : Array (Option Value)} {oc26 kV26 dc26 pm26 cd26 ct26 : Value} (a26 : PySem.W.nsIn K mainGlobals "_law_take" = some (some (.ref f26))) (l26 : K.lookup f26 = some ⟨oc26, od26, .func (PySem.W.fnOf "_law_take" "_law_take" (defArgs s_law_take) (defBody s_law_take) (defScope s_law_take) .none kV26 dc26 pm26 an26 cd26 ct26), sl26⟩) (c26 : PySem.W.codeIn K cd26 "_law_take" = true) (k26 : PySem.W.keepIn K (.ref f26) = true)
    {f27 : Addr} {od27 an27 : Option Addr} {sl27 : Array (Option Value)} {oc27 kV27 dc27 pm27 cd27 ct27 : Value} (a27 : PySem.W.nsIn K mainGlobals "_law_of" = some (some (.ref f27))) (l27 : K.lookup f27 = some ⟨oc27, od27, .func (PySem.W.fnOf "_law_of" "_law_of" (defArgs s_law_of) (defBody s_law_of) (defScope s_law_of) .none kV27 dc27 pm27 an27 cd27 ct27), sl27⟩) (c27 : PySem.W.codeIn K cd27 "_law_of" = true) (k27 : PySem.W.keepIn K (.ref f27) = true)
    {f28 : Addr} {od28 an28 : Option Addr} {sl28 : Array (Option Value)} {oc28 kV28 dc28 pm28 cd28 ct28 : Value} (a28 : PySem.W.nsIn K mainGlobals "_law_event" = some (some (.ref f28))) (l28 : K.lookup f28 = some ⟨oc28, od28, .func (PySem.W.fnOf "_law_event" "_law_event" (defArgs s_law_event) (defBody s_law_event) (defScope s_law_event) .none kV28 dc28 pm28 an28 cd28 ct28), sl28⟩) (c28 : PySem.W.codeIn K cd28 "_law_event" = true) (k28 : PySem.W.keepIn K (.ref f28) = true)
    {f29 : Addr} {od29 an29 : Option Addr} {sl29 : Array (Option Value)} {oc29 kV29 dc29 pm29 cd29 ct29 : Value} (a29 : PySem.W.nsIn K mainGlobals "_law_moved" = some (some (.ref f29))) (l29 : K.lookup f29 = some ⟨oc29, od29, .func (PySem.W.fnOf "_law_moved" "_law_moved" (defArgs s_law_moved) (defBody s_law_moved) (defScope s_law_moved) .none kV29 dc29 pm29 an29 cd29 ct29), sl29⟩) (c29 : PySem.W.codeIn K cd29 "_law_moved" = true) (k29 : PySem.W.keepIn K (.ref f29) = true)
    {f30 : Addr} {od30 an30 : Option Addr} {sl30 : Array (Option Value)} {oc30 kV30 dc30 pm30 cd30 ct30 : Value} (a30 : PySem.W.nsIn K mainGlobals "_law_table" = some (some (.ref f30))) (l30 : K.lookup f30 = some ⟨oc30, od30, .func (PySem.W.fnOf "_law_table" "_law_table" (defArgs s_law_table) (defBody s_law_table) (defScope s_law_table) .none kV30 dc30 pm30 an30 cd30 ct30), sl30⟩) (c30 : PySem.W.codeIn K cd30 "_law_table" = true) (k30 : PySem.W.keepIn K (.ref f30) = true)
    {f31 : Addr} {od31 an31 : Option Addr} {sl31 : Array (Option Value)} {oc31 kV31 dc31 pm31 cd31 ct31 : Value} (a31 : PySem.W.nsIn K mainGlobals "_law_ended" = some (some (.ref f31))) (l31 : K.lookup f31 = some ⟨oc31, od31, .func (PySem.W.fnOf "_law_ended" "_law_ended" (defArgs s_law_ended) (defBody s_law_ended) (defScope s_law_ended) .none kV31 dc31 pm31 an31 cd31 ct31), sl31⟩) (c31 : PySem.W.codeIn K cd31 "_law_ended" = true) (k31 : PySem.W.keepIn K (.ref f31) = true)
    {f32 : Addr} {od32 an32 : Option Addr} {sl32 : Array (Option Value)} {oc32 kV32 dc32 pm32 cd32 ct32 : Value} (a32 : PySem.W.nsIn K mainGlobals "_law_lots" = some (some (.ref f32))) (l32 : K.lookup f32 = some ⟨oc32, od32, .func (PySem.W.fnOf "_law_lots" "_law_lots" (defArgs s_law_lots) (defBody s_law_lots) (defScope s_law_lots) .none kV32 dc32 pm32 an32 cd32 ct32), sl32⟩) (c32 : PySem.W.codeIn K cd32 "_law_lots" = true) (k32 : PySem.W.keepIn K (.ref f32) = true)
    {f33 : Addr} {od33 an33 : Option Addr} {sl33 : Array (Option Value)} {oc33 kV33 dc33 pm33 cd33 ct33 : Value} (a33 : PySem.W.nsIn K mainGlobals "_law_beside" = some (some (.ref f33))) (l33 : K.lookup f33 = some ⟨oc33, od33, .func (PySem.W.fnOf "_law_beside" "_law_beside" (defArgs s_law_beside) (defBody s_law_beside) (defScope s_law_beside) .none kV33 dc33 pm33 an33 cd33 ct33), sl33⟩) (c33 : PySem.W.codeIn K cd33 "_law_beside" = true) (k33 : PySem.W.keepIn K (.ref f33) = true)
    {f34 : Addr} {od34 an34 : Option Addr} {sl34 : Array (Option Value)} {oc34 kV34 dc34 pm34 cd34 ct34 : Value} (a34 : PySem.W.nsIn K mainGlobals "_law_fit" = some (some (.ref f34))) (l34 : K.lookup f34 = some ⟨oc34, od34, .func (PySem.W.fnOf "_law_fit" "_law_fit" (defArgs s_law_fit) (defBody s_law_fit) (defScope s_law_fit) .none kV34 dc34 pm34 an34 cd34 ct34), sl34⟩) (c34 : PySem.W.codeIn K cd34 "_law_fit" = true) (k34 : PySem.W.keepIn K (.ref f34) = true)
    {f35 : Addr} {od35 an35 : Option Addr} {sl35 : Array (Option Value)} {oc35 kV35 dc35 pm35 cd35 ct35 : Value} (a35 : PySem.W.nsIn K mainGlobals "_law_drawn" = some (some (.ref f35))) (l35 : K.lookup f35 = some ⟨oc35, od35, .func (PySem.W.fnOf "_law_drawn" "_law_drawn" (defArgs s_law_drawn) (defBody s_law_drawn) (defScope s_law_drawn) .none kV35 dc35 pm35 an35 cd35 ct35), sl35⟩) (c35 : PySem.W.codeIn K cd35 "_law_drawn" = true) (k35 : PySem.W.keepIn K (.ref f35) = true)
    {f36 : Addr} {od36 an36 : Option Addr} {sl36 : Array (Option Value)} {oc36 kV36 dc36 pm36 cd36 ct36 : Value} (a36 : PySem.W.nsIn K mainGlobals "_law_same" = some (some (.ref f36))) (l36 : K.lookup f36 = some ⟨oc36, od36, .func (PySem.W.fnOf "_law_same" "_law_same" (defArgs s_law_same) (defBody s_law_same) (defScope s_law_same) .none kV36 dc36 pm36 an36 cd36 ct36), sl36⟩) (c36 : PySem.W.codeIn K cd36 "_law_same" = true) (k36 : PySem.W.keepIn K (.ref f36) = true)
    {f37 : Addr} {od37 an37 : Option Addr} {sl37 : Array (Option Value)} {oc37 kV37 dc37 pm37 cd37 ct37 : Value} (a37 : PySem.W.nsIn K mainGlobals "_law_many" = some (some (.ref f37))) (l37 : K.lookup f37 = some ⟨oc37, od37, .func (PySem.W.fnOf "_law_many" "_law_many" (defArgs s_law_many) (defBody s_law_many) (defScope s_law_many) .none kV37 dc37 pm37 an37 cd37 ct37), sl37⟩) (c37 : PySem.W.codeIn K cd37 "_law_many" = true) (k37 : PySem.W.keepIn K (.ref f37) = true)
    {f38 : Addr} {od38 an38 : Option Addr} {sl38 : Array (Option Value)} {oc38 kV38 dc38 pm38 cd38 ct38 : Value} (a38 : PySem.W.nsIn K mainGlobals "_law_some_broom" = some (some (.ref f38))) (l38 : K.lookup f38 = some ⟨oc38, od38, .func (PySem.W.fnOf "_law_some_broom" "_law_some_broom" (defArgs s_law_some_broom) (defBody s_law_some_broom) (defScope s_law_some_broom) .none kV38 dc38 pm38 an38 cd38 ct38), sl38⟩) (c38 : PySem.W.codeIn K cd38 "_law_some_broom" = true) (k38 : PySem.W.keepIn K (.ref f38) = true)
    {f39 : Addr} {od39 an39 : Option Addr} {sl39 : Array (Option Value)} {oc39 kV39 dc39 pm39 cd39 ct39 : Value} (a39 : PySem.W.nsIn K mainGlobals "_law_bare" = some (some (.ref f39))) (l39 : K.lookup f39 = some ⟨oc39, od39, .func (PySem.W.fnOf "_law_bare" "_law_bare" (defArgs s_law_bare) (defBody s_law_bare) (defScope s_law_bare) .none kV39 dc39 pm39 an39 cd39 ct39), sl39⟩) (c39 : PySem.W.codeIn K cd39 "_law_bare" = true) (k39 : PySem.W.keepIn K (.ref f39) = true)
    {f40 : Addr} {od40 an40 : Option Addr} {sl40 : Array (Option Value)} {oc40 kV40 dc40 pm40 cd40 ct40 : Value} (a40 : PySem.W.nsIn K mainGlobals "_law_least" = some (some (.ref f40))) (l40 : K.lookup f40 = some ⟨oc40, od40, .func (PySem.W.fnOf "_law_least" "_law_least" (defArgs s_law_least) (defBody s_law_least) (defScope s_law_least) .none kV40 dc40 pm40 an40 cd40 ct40), sl40⟩) (c40 : PySem.W.codeIn K cd40 "_law_least" = true) (k40 : PySem.W.keepIn K (.ref f40) = true)
    {f41 : Addr} {od41 an41 : Option Addr} {sl41 : Array (Option Value)} {oc41 kV41 dc41 pm41 cd41 ct41 : Value} (a41 : PySem.W.nsIn K mainGlobals "_law_leave" = some (some (.ref f41))) (l41 : K.lookup f41 = some ⟨oc41, od41, .func (PySem.W.fnOf "_law_leave" "_law_leave" (defArgs s_law_leave) (defBody s_law_leave) (defScope s_law_leave) .none kV41 dc41 pm41 an41 cd41 ct41), sl41⟩) (c41 : PySem.W.codeIn K cd41 "_law_leave" = true) (k41 : PySem.W.keepIn K (.ref f41) = true)
    {f42 : Addr} {od42 an42 : Option Addr} {sl42 : Array (Option Value)} {oc42 kV42 dc42 pm42 cd42 ct42 : Value} (a42 : PySem.W.nsIn K mainGlobals "_law_swept" = some (some (.ref f42))) (l42 : K.lookup f42 = some ⟨oc42, od42, .func (PySem.W.fnOf "_law_swept" "_law_swept" (defArgs s_law_swept) (defBody s_law_swept) (defScope s_law_swept) .none kV42 dc42 pm42 an42 cd42 ct42), sl42⟩) (c42 : PySem.W.codeIn K cd42 "_law_swept" = true) (k42 : PySem.W.keepIn K (.ref f42) = true)
    {f43 : Addr} {od43 an43 : Option Addr} {sl43 : Array (Option Value)} {oc43 kV43 dc43 pm43 cd43 ct43 : Value} (a43 : PySem.W.nsIn K mainGlobals "_law_heard" = some (some (.ref f43))) (l43 : K.lookup f43 = some ⟨oc43, od43, .func (PySem.W.fnOf "_law_heard" "_law_heard" (defArgs s_law_heard) (defBody s_law_heard) (defScope s_law_heard) .none kV43 dc43 pm43 an43 cd43 ct43), sl43⟩) (c43 : PySem.W.codeIn K cd43 "_law_heard" = true) (k43 : PySem.W.keepIn K (.ref f43) = true)
    {f44 : Addr} {od44 an44 : Option Addr} {sl44 : Array (Option Value)} {oc44 kV44 dc44 pm44 cd44 ct44 : Value} (a44 : PySem.W.nsIn K mainGlobals "_law_did" = some (some (.ref f44))) (l44 : K.lookup f44 = some ⟨oc44, od44, .func (PySem.W.fnOf "_law_did" "_law_did" (defArgs s_law_did) (defBody s_law_did) (defScope s_law_did) .none kV44 dc44 pm44 an44 cd44 ct44), sl44⟩) (c44 : PySem.W.codeIn K cd44 "_law_did" = true) (k44 : PySem.W.keepIn K (.ref f44) = true)
    {T45 : Addr}
    {f45 : Addr} {od45 an45 : Option Addr} {sl45 : Array (Option Value)} {oc45 kV45 dc45 pm45 cd45 ct45 : Value} (a45 : PySem.W.nsIn K mainGlobals "_law_run" = some (some (.ref f45))) (l45 : K.lookup f45 = some ⟨oc45, od45, .func (PySem.W.fnOf "_law_run" "_law_run" (defArgs s_law_run) (defBody s_law_run) (defScope s_law_run) (.ref T45) kV45 dc45 pm45 an45 cd45 ct45), sl45⟩) (c45 : PySem.W.codeIn K cd45 "_law_run" = true) (k45 : PySem.W.keepIn K (.ref f45) = true)
    {tc45 : Value} {td45 : Option Addr} {tn45 : Nat} {ts45 : Array (Option Value)} (t45 : K.lookup T45 = some ⟨tc45, td45, .seq #[.none] tn45, ts45⟩)
    {f46 : Addr} {od46 an46 : Option Addr} {sl46 : Array (Option Value)} {oc46 kV46 dc46 pm46 cd46 ct46 : Value} (a46 : PySem.W.nsIn K mainGlobals "_law_wrong" = some (some (.ref f46))) (l46 : K.lookup f46 = some ⟨oc46, od46, .func (PySem.W.fnOf "_law_wrong" "_law_wrong" (defArgs s_law_wrong) (defBody s_law_wrong) (defScope s_law_wrong) .none kV46 dc46 pm46 an46 cd46 ct46), sl46⟩) (c46 : PySem.W.codeIn K cd46 "_law_wrong" = true) (k46 : PySem.W.keepIn K (.ref f46) = true)
    {f47 : Addr} {od47 an47 : Option Addr} {sl47 : Array (Option Value)} {oc47 kV47 dc47 pm47 cd47 ct47 : Value} (a47 : PySem.W.nsIn K mainGlobals "_law_sets" = some (some (.ref f47))) (l47 : K.lookup f47 = some ⟨oc47, od47, .func (PySem.W.fnOf "_law_sets" "_law_sets" (defArgs s_law_sets) (defBody s_law_sets) (defScope s_law_sets) .none kV47 dc47 pm47 an47 cd47 ct47), sl47⟩) (c47 : PySem.W.codeIn K cd47 "_law_sets" = true) (k47 : PySem.W.keepIn K (.ref f47) = true)
    {f48 : Addr} {od48 an48 : Option Addr} {sl48 : Array (Option Value)} {oc48 kV48 dc48 pm48 cd48 ct48 : Value} (a48 : PySem.W.nsIn K mainGlobals "_law_end" = some (some (.ref f48))) (l48 : K.lookup f48 = some ⟨oc48, od48, .func (PySem.W.fnOf "_law_end" "_law_end" (defArgs s_law_end) (defBody s_law_end) (defScope s_law_end) .none kV48 dc48 pm48 an48 cd48 ct48), sl48⟩) (c48 : PySem.W.codeIn K cd48 "_law_end" = true) (k48 : PySem.W.keepIn K (.ref f48) = true)
    {f49 : Addr} {od49 an49 : Option Addr} {sl49 : Array (Option Value)} {oc49 kV49 dc49 pm49 cd49 ct49 : Value} (a49 : PySem.W.nsIn K mainGlobals "_law_own_end" = some (some (.ref f49))) (l49 : K.lookup f49 = some ⟨oc49, od49, .func (PySem.W.fnOf "_law_own_end" "_law_own_end" (defArgs s_law_own_end) (defBody s_law_own_end) (defScope s_law_own_end) .none kV49 dc49 pm49 an49 cd49 ct49), sl49⟩) (c49 : PySem.W.codeIn K cd49 "_law_own_end" = true) (k49 : PySem.W.keepIn K (.ref f49) = true)
    {f50 : Addr} {od50 an50 : Option Addr} {sl50 : Array (Option Value)} {oc50 kV50 dc50 pm50 cd50 ct50 : Value} (a50 : PySem.W.nsIn K mainGlobals "_law_right" = some (some (.ref f50))) (l50 : K.lookup f50 = some ⟨oc50, od50, .func (PySem.W.fnOf "_law_right" "_law_right" (defArgs s_law_right) (defBody s_law_right) (defScope s_law_right) .none kV50 dc50 pm50 an50 cd50 ct50), sl50⟩) (c50 : PySem.W.codeIn K cd50 "_law_right" = true) (k50 : PySem.W.keepIn K (.ref f50) = true)
    {f51 : Addr} {od51 an51 : Option Addr} {sl51 : Array (Option Value)} {oc51 kV51 dc51 pm51 cd51 ct51 : Value} (a51 : PySem.W.nsIn K mainGlobals "law" = some (some (.ref f51))) (l51 : K.lookup f51 = some ⟨oc51, od51, .func (PySem.W.fnOf "law" "law" (defArgs s_law) (defBody s_law) (defScope s_law) .none kV51 dc51 pm51 an51 cd51 ct51), sl51⟩) (c51 : PySem.W.codeIn K cd51 "law" = true) (k51 : PySem.W.keepIn K (.ref f51) = true)
    (z0 : PySem.W.nsIn K mainGlobals "abs" = some none) (z1 : PySem.W.nsIn K mainGlobals "all" = some none) (z2 : PySem.W.nsIn K mainGlobals "any" = some none) (z3 : PySem.W.nsIn K mainGlobals "bool" = some none) (z4 : PySem.W.nsIn K mainGlobals "dict" = some none) (z5 : PySem.W.nsIn K mainGlobals "enumerate" = some none) (z6 : PySem.W.nsIn K mainGlobals "int" = some none) (z7 : PySem.W.nsIn K mainGlobals "isinstance" = some none) (z8 : PySem.W.nsIn K mainGlobals "len" = some none) (z9 : PySem.W.nsIn K mainGlobals "list" = some none) (z10 : PySem.W.nsIn K mainGlobals "max" = some none) (z11 : PySem.W.nsIn K mainGlobals "min" = some none) (z12 : PySem.W.nsIn K mainGlobals "range" = some none) (z13 : PySem.W.nsIn K mainGlobals "reversed" = some none) (z14 : PySem.W.nsIn K mainGlobals "set" = some none) (z15 : PySem.W.nsIn K mainGlobals "sorted" = some none) (z16 : PySem.W.nsIn K mainGlobals "str" = some none) (z17 : PySem.W.nsIn K mainGlobals "sum" = some none) (z18 : PySem.W.nsIn K mainGlobals "tuple" = some none) (z19 : PySem.W.nsIn K mainGlobals "zip" = some none) :
    ∃ fd : FuncData, (∀ (s : Shared) (v : Value), BindsTo s fd ⟨[v], []⟩ [("_law_script", v)]) ∧ ∀ base : Heap, K.In base → base.Ns mainGlobals mg → FnOk l.prog w K mg base CX0 10 fa fd ["_law_script"] (spLaw K) := by
  have e := hfa.symm.trans (PySem.W.mg_of X G a51)
  cases e
  have T : Txt mg := ⟨PySem.W.mg_none_of X G z0, PySem.W.mg_none_of X G z1, PySem.W.mg_none_of X G z2, PySem.W.mg_none_of X G z3, PySem.W.mg_none_of X G z4, PySem.W.mg_none_of X G z5, PySem.W.mg_none_of X G z6, PySem.W.mg_none_of X G z7, PySem.W.mg_none_of X G z8, PySem.W.mg_none_of X G z9, PySem.W.mg_none_of X G z10, PySem.W.mg_none_of X G z11, PySem.W.mg_none_of X G z12, PySem.W.mg_none_of X G z13, PySem.W.mg_none_of X G z14, PySem.W.mg_none_of X G z15, PySem.W.mg_none_of X G z16, PySem.W.mg_none_of X G z17, PySem.W.mg_none_of X G z18, PySem.W.mg_none_of X G z19⟩
  have W : LogC K C_Log := ⟨⟨pg_Log, hd_Log, po_Log, sa_Log⟩, n0_Log, n1_Log, n2_Log, n3_Log, n4_Log, n5_Log, n6_Log, n7_Log, n8_Log⟩
  have F_init := fund1 (x := "__init__") (q := "Log.__init__") (st := s_Log___init__) l0 c0 k0 t0
  have D_Log___init__ : DfID K mg C_Log "Log" "Log.__init__" s_Log___init__ ps_Log___init__ := ⟨_, f0, _, F_init, ⟨mk_Log, a0, i0, kc_Log⟩, PySem.W.mg_of X G aC_Log, init3 F_init⟩
  have D_Log_put : DfM K C_Log "put" "Log.put" s_Log_put ps_Log_put := ⟨f1, _, fun_mk l1 c1 k1, ⟨a1, i1, k1⟩, (fun_mk l1 c1 k1).binds (fun _ _ _ _ _ _ us hl => match us, hl with | [_, _, _], _ => rfl)⟩
  have D_Log_drop : DfM K C_Log "drop" "Log.drop" s_Log_drop ps_Log_drop := ⟨f2, _, fun_mk l2 c2 k2, ⟨a2, i2, k2⟩, (fun_mk l2 c2 k2).binds (fun _ _ _ _ _ _ us hl => match us, hl with | [_, _], _ => rfl)⟩
  have D_Log_join : DfM K C_Log "join" "Log.join" s_Log_join ps_Log_join := ⟨f3, _, fun_mk l3 c3 k3, ⟨a3, i3, k3⟩, (fun_mk l3 c3 k3).binds (fun _ _ _ _ _ _ us hl => match us, hl with | [_, _], _ => rfl)⟩
  have D_Log_read : DfM K C_Log "read" "Log.read" s_Log_read ps_Log_read := ⟨f4, _, fun_mk l4 c4 k4, ⟨a4, i4, k4⟩, (fun_mk l4 c4 k4).binds (fun _ _ _ _ _ _ us hl => match us, hl with | [_, _, _], _ => rfl)⟩
  have D_Log_save : DfM K C_Log "save" "Log.save" s_Log_save ps_Log_save := ⟨f5, _, fun_mk l5 c5 k5, ⟨a5, i5, k5⟩, (fun_mk l5 c5 k5).binds (fun _ _ _ _ _ _ us hl => match us, hl with | [_, _], _ => rfl)⟩
  have D_Log_load : DfM K C_Log "load" "Log.load" s_Log_load ps_Log_load := ⟨f6, _, fun_mk l6 c6 k6, ⟨a6, i6, k6⟩, (fun_mk l6 c6 k6).binds (fun _ _ _ _ _ _ us hl => match us, hl with | [_, _, _], _ => rfl)⟩
  have D_Log_wait : DfM K C_Log "wait" "Log.wait" s_Log_wait ps_Log_wait := ⟨f7, _, fun_mk l7 c7 k7, ⟨a7, i7, k7⟩, (fun_mk l7 c7 k7).binds (fun _ _ _ _ _ _ us hl => match us, hl with | [_], _ => rfl)⟩
  have D_Log_do : DfM K C_Log "do" "Log.do" s_Log_do ps_Log_do := ⟨f8, _, fun_mk l8 c8 k8, ⟨a8, i8, k8⟩, (fun_mk l8 c8 k8).binds (fun _ _ _ _ _ _ us hl => match us, hl with | [_, _], _ => rfl)⟩
  have D_Log_sweep : DfM K C_Log "sweep" "Log.sweep" s_Log_sweep ps_Log_sweep := ⟨f9, _, fun_mk l9 c9 k9, ⟨a9, i9, k9⟩, (fun_mk l9 c9 k9).binds (fun _ _ _ _ _ _ us hl => match us, hl with | [_, _], _ => rfl)⟩
  have D_Log_there : DfM K C_Log "there" "Log.there" s_Log_there ps_Log_there := ⟨f10, _, fun_mk l10 c10 k10, ⟨a10, i10, k10⟩, (fun_mk l10 c10 k10).binds (fun _ _ _ _ _ _ us hl => match us, hl with | [_], _ => rfl)⟩
  have D_Log_now : DfM K C_Log "now" "Log.now" s_Log_now ps_Log_now := ⟨f11, _, fun_mk l11 c11 k11, ⟨a11, i11, k11⟩, (fun_mk l11 c11 k11).binds (fun _ _ _ _ _ _ us hl => match us, hl with | [_], _ => rfl)⟩
  have D_Log_seat : DfM K C_Log "seat" "Log.seat" s_Log_seat ps_Log_seat := ⟨f12, _, fun_mk l12 c12 k12, ⟨a12, i12, k12⟩, (fun_mk l12 c12 k12).binds (fun _ _ _ _ _ _ us hl => match us, hl with | [_, _], _ => rfl)⟩
  have D_Log_table : DfM K C_Log "table" "Log.table" s_Log_table ps_Log_table := ⟨f13, _, fun_mk l13 c13 k13, ⟨a13, i13, k13⟩, (fun_mk l13 c13 k13).binds (fun _ _ _ _ _ _ us hl => match us, hl with | [_, _], _ => rfl)⟩
  have D_Log_last : DfM K C_Log "last" "Log.last" s_Log_last ps_Log_last := ⟨f14, _, fun_mk l14 c14 k14, ⟨a14, i14, k14⟩, (fun_mk l14 c14 k14).binds (fun _ _ _ _ _ _ us hl => match us, hl with | [_, _], _ => rfl)⟩
  have D_Log__is_dropped : DfM K C_Log "_is_dropped" "Log._is_dropped" s_Log__is_dropped ps_Log__is_dropped := ⟨f15, _, fun_mk l15 c15 k15, ⟨a15, i15, k15⟩, (fun_mk l15 c15 k15).binds (fun _ _ _ _ _ _ us hl => match us, hl with | [_, _, _], _ => rfl)⟩
  have D_Log_readers : DfM K C_Log "readers" "Log.readers" s_Log_readers ps_Log_readers := ⟨f16, _, fun_mk l16 c16 k16, ⟨a16, i16, k16⟩, (fun_mk l16 c16 k16).binds (fun _ _ _ _ _ _ us hl => match us, hl with | [_], _ => rfl)⟩
  have D_Log_wrong : DfM K C_Log "wrong" "Log.wrong" s_Log_wrong ps_Log_wrong := ⟨f17, _, fun_mk l17 c17 k17, ⟨a17, i17, k17⟩, (fun_mk l17 c17 k17).binds (fun _ _ _ _ _ _ us hl => match us, hl with | [_, _], _ => rfl)⟩
  have D_Log__append : DfM K C_Log "_append" "Log._append" s_Log__append ps_Log__append := ⟨f18, _, fun_mk l18 c18 k18, ⟨a18, i18, k18⟩, (fun_mk l18 c18 k18).binds (fun _ _ _ _ _ _ us hl => match us, hl with | [_, _, _], _ => rfl)⟩
  have D_Log__check_joined : DfM K C_Log "_check_joined" "Log._check_joined" s_Log__check_joined ps_Log__check_joined := ⟨f19, _, fun_mk l19 c19 k19, ⟨a19, i19, k19⟩, (fun_mk l19 c19 k19).binds (fun _ _ _ _ _ _ us hl => match us, hl with | [_, _], _ => rfl)⟩
  have D_Log__end_event : DfM K C_Log "_end_event" "Log._end_event" s_Log__end_event ps_Log__end_event := ⟨f20, _, fun_mk l20 c20 k20, ⟨a20, i20, k20⟩, (fun_mk l20 c20 k20).binds (fun _ _ _ _ _ _ us hl => match us, hl with | [_], _ => rfl)⟩
  have D_Log__let_marks_go : DfM K C_Log "_let_marks_go" "Log._let_marks_go" s_Log__let_marks_go ps_Log__let_marks_go := ⟨f21, _, fun_mk l21 c21 k21, ⟨a21, i21, k21⟩, (fun_mk l21 c21 k21).binds (fun _ _ _ _ _ _ us hl => match us, hl with | [_], _ => rfl)⟩
  have D_Log__least_guard : DfM K C_Log "_least_guard" "Log._least_guard" s_Log__least_guard ps_Log__least_guard := ⟨f22, _, fun_mk l22 c22 k22, ⟨a22, i22, k22⟩, (fun_mk l22 c22 k22).binds (fun _ _ _ _ _ _ us hl => match us, hl with | [_], _ => rfl)⟩
  have F_run := fund2 (x := "run") (q := "run") (st := s_run) l23 c23 k23 t23
  have m_run := PySem.W.mg_of X G a23
  have D_do_ahead_of : Df K mg "_do_ahead_of" s_do_ahead_of ps_do_ahead_of := df_of X G a24 l24 c24 k24 (fun _ _ _ _ _ _ us hl => match us, hl with | [_, _, _], _ => rfl)
  have D_law_box : Df K mg "_law_box" s_law_box ps_law_box := df_of X G a25 l25 c25 k25 (fun _ _ _ _ _ _ us hl => match us, hl with | [_, _], _ => rfl)
  have D_law_take : Df K mg "_law_take" s_law_take ps_law_take := df_of X G a26 l26 c26 k26 (fun _ _ _ _ _ _ us hl => match us, hl with | [_, _], _ => rfl)
  have D_law_of : Df K mg "_law_of" s_law_of ps_law_of := df_of X G a27 l27 c27 k27 (fun _ _ _ _ _ _ us hl => match us, hl with | [_, _], _ => rfl)
  have D_law_event : Df K mg "_law_event" s_law_event ps_law_event := df_of X G a28 l28 c28 k28 (fun _ _ _ _ _ _ us hl => match us, hl with | [_, _, _, _, _], _ => rfl)
  have D_law_moved : Df K mg "_law_moved" s_law_moved ps_law_moved := df_of X G a29 l29 c29 k29 (fun _ _ _ _ _ _ us hl => match us, hl with | [_, _], _ => rfl)
  have D_law_table : Df K mg "_law_table" s_law_table ps_law_table := df_of X G a30 l30 c30 k30 (fun _ _ _ _ _ _ us hl => match us, hl with | [_, _, _, _, _, _], _ => rfl)
  have D_law_ended : Df K mg "_law_ended" s_law_ended ps_law_ended := df_of X G a31 l31 c31 k31 (fun _ _ _ _ _ _ us hl => match us, hl with | [_], _ => rfl)
  have D_law_lots : Df K mg "_law_lots" s_law_lots ps_law_lots := df_of X G a32 l32 c32 k32 (fun _ _ _ _ _ _ us hl => match us, hl with | [_, _, _], _ => rfl)
  have D_law_beside : Df K mg "_law_beside" s_law_beside ps_law_beside := df_of X G a33 l33 c33 k33 (fun _ _ _ _ _ _ us hl => match us, hl with | [_, _, _], _ => rfl)
  have D_law_fit : Df K mg "_law_fit" s_law_fit ps_law_fit := df_of X G a34 l34 c34 k34 (fun _ _ _ _ _ _ us hl => match us, hl with | [_, _, _, _], _ => rfl)
  have D_law_drawn : Df K mg "_law_drawn" s_law_drawn ps_law_drawn := df_of X G a35 l35 c35 k35 (fun _ _ _ _ _ _ us hl => match us, hl with | [_, _], _ => rfl)
  have D_law_same : Df K mg "_law_same" s_law_same ps_law_same := df_of X G a36 l36 c36 k36 (fun _ _ _ _ _ _ us hl => match us, hl with | [_, _], _ => rfl)
  have D_law_many : Df K mg "_law_many" s_law_many ps_law_many := df_of X G a37 l37 c37 k37 (fun _ _ _ _ _ _ us hl => match us, hl with | [_, _], _ => rfl)
  have D_law_some_broom : Df K mg "_law_some_broom" s_law_some_broom ps_law_some_broom := df_of X G a38 l38 c38 k38 (fun _ _ _ _ _ _ us hl => match us, hl with | [_, _], _ => rfl)
  have D_law_bare : Df K mg "_law_bare" s_law_bare ps_law_bare := df_of X G a39 l39 c39 k39 (fun _ _ _ _ _ _ us hl => match us, hl with | [], _ => rfl)
  have D_law_least : Df K mg "_law_least" s_law_least ps_law_least := df_of X G a40 l40 c40 k40 (fun _ _ _ _ _ _ us hl => match us, hl with | [_, _], _ => rfl)
  have D_law_leave : Df K mg "_law_leave" s_law_leave ps_law_leave := df_of X G a41 l41 c41 k41 (fun _ _ _ _ _ _ us hl => match us, hl with | [_, _, _, _], _ => rfl)
  have D_law_swept : Df K mg "_law_swept" s_law_swept ps_law_swept := df_of X G a42 l42 c42 k42 (fun _ _ _ _ _ _ us hl => match us, hl with | [_, _, _, _, _], _ => rfl)
  have D_law_heard : Df K mg "_law_heard" s_law_heard ps_law_heard := df_of X G a43 l43 c43 k43 (fun _ _ _ _ _ _ us hl => match us, hl with | [_, _, _], _ => rfl)
  have D_law_did : Df K mg "_law_did" s_law_did ps_law_did := df_of X G a44 l44 c44 k44 (fun _ _ _ _ _ _ us hl => match us, hl with | [_, _], _ => rfl)
  have F_lr := fundN (x := "_law_run") (q := "_law_run") (st := s_law_run) l45 c45 k45 t45
  have m_lr := PySem.W.mg_of X G a45
  have D_law_wrong : Df K mg "_law_wrong" s_law_wrong ps_law_wrong := df_of X G a46 l46 c46 k46 (fun _ _ _ _ _ _ us hl => match us, hl with | [_], _ => rfl)
  have D_law_sets : Df K mg "_law_sets" s_law_sets ps_law_sets := df_of X G a47 l47 c47 k47 (fun _ _ _ _ _ _ us hl => match us, hl with | [_, _], _ => rfl)
  have D_law_end : Df K mg "_law_end" s_law_end ps_law_end := df_of X G a48 l48 c48 k48 (fun _ _ _ _ _ _ us hl => match us, hl with | [_], _ => rfl)
  have D_law_own_end : Df K mg "_law_own_end" s_law_own_end ps_law_own_end := df_of X G a49 l49 c49 k49 (fun _ _ _ _ _ _ us hl => match us, hl with | [_], _ => rfl)
  have D_law_right : Df K mg "_law_right" s_law_right ps_law_right := df_of X G a50 l50 c50 k50 (fun _ _ _ _ _ _ us hl => match us, hl with | [_], _ => rfl)
  refine ⟨PySem.W.fnOf "law" "law" (defArgs s_law) (defBody s_law) (defScope s_law) .none kV51 dc51 pm51 an51 cd51 ct51, fun s v => .of_eq rfl, fun base _ _ => ?_⟩
  have F_law := fun_mk (st := s_law) l51 c51 k51
  have G_Log__least_guard : HasM l.prog w K mg base C_Log 1 "_least_guard" ps_Log__least_guard (spLeast C_Log) := has_least D_Log__least_guard T W
  have G_Log__let_marks_go : HasM l.prog w K mg base C_Log 2 "_let_marks_go" ps_Log__let_marks_go (spMarks C_Log) := has_marks D_Log__let_marks_go T W G_Log__least_guard
  have G_Log__end_event : HasM l.prog w K mg base C_Log 3 "_end_event" ps_Log__end_event (spEnd C_Log) := has_endev D_Log__end_event T W G_Log__let_marks_go
  have G_Log__append : HasM l.prog w K mg base C_Log 4 "_append" ps_Log__append (spAppend C_Log) := has_append D_Log__append T W G_Log__end_event
  have G_Log_put : HasM l.prog w K mg base C_Log 5 "put" ps_Log_put (spPut C_Log) := has_logput D_Log_put T W G_Log__append
  have G_Log_drop : HasM l.prog w K mg base C_Log 5 "drop" ps_Log_drop (spDrop C_Log) := has_logdrop D_Log_drop T W G_Log__append
  have G_Log_wait : HasM l.prog w K mg base C_Log 4 "wait" ps_Log_wait (spWait C_Log) := has_logwait D_Log_wait T W G_Log__end_event
  have G_Log_join : HasM l.prog w K mg base C_Log 4 "join" ps_Log_join (spJoin C_Log) := has_logjoin D_Log_join T W G_Log__end_event
  have G_Log__check_joined : HasM l.prog w K mg base C_Log 1 "_check_joined" ps_Log__check_joined (spCheck C_Log) := has_check D_Log__check_joined T W
  have G_Log_there : HasM l.prog w K mg base C_Log 1 "there" ps_Log_there (spThere C_Log) := has_there D_Log_there T W
  have G_Log_read : HasM l.prog w K mg base C_Log 4 "read" ps_Log_read (spRead C_Log) := has_logread D_Log_read T W G_Log__check_joined G_Log_there G_Log__end_event
  have G_Log_sweep : HasM l.prog w K mg base C_Log 3 "sweep" ps_Log_sweep (spSweep C_Log) := has_logsweep D_Log_sweep T W G_Log__let_marks_go
  have G_Log_table : HasM l.prog w K mg base C_Log 2 "table" ps_Log_table (spLogTable C_Log) := has_logtable D_Log_table T W G_Log__check_joined
  have G_Log_save : HasM l.prog w K mg base C_Log 4 "save" ps_Log_save (spSave C_Log) := has_logsave D_Log_save T W G_Log__check_joined G_Log_table G_Log__end_event
  have G_Log_load : HasM l.prog w K mg base C_Log 4 "load" ps_Log_load (spLoad C_Log) := has_logload D_Log_load T W G_Log__end_event
  have G_Log_do : HasM l.prog w K mg base C_Log 6 "do" ps_Log_do (spDo K C_Log) := has_logdo D_Log_do T W G_Log_put G_Log_drop G_Log_join G_Log_read G_Log_save G_Log_load G_Log_wait
  have G_Log_now : HasM l.prog w K mg base C_Log 1 "now" ps_Log_now (spNow C_Log) := has_lognow D_Log_now T W
  have I_Log : HasI l.prog w K mg base C_Log 1 "Log" ps_Log___init__ (spNew K C_Log) := has_loginit D_Log___init__ T W
  have G_do_ahead_of : Has l.prog w K mg base 7 "_do_ahead_of" ps_do_ahead_of (spAhead K C_Log) := has_ahead D_do_ahead_of T W G_Log_now G_Log_do
  have R_run := has_run (P := l.prog) (w := w) (mg := mg) (base := base) F_run T W I_Log G_do_ahead_of G_Log_sweep
  have G_run : Has l.prog w K mg base 8 "run" ps_run (spRun K C_Log) := ⟨_, _, R_run, m_run, k23, run4 F_run⟩
  have B2_run : HasB l.prog w K mg base 8 "run" ps_run [.ref E23_0, .ref E23_1] (spRun K C_Log) := (run2 F_run).elim fun ds z => ⟨_, _, ds, R_run, m_run, k23, z.2, z.1⟩
  have G_Log_seat : HasM l.prog w K mg base C_Log 2 "seat" ps_Log_seat (spLogSeat C_Log) := has_logseat D_Log_seat T W G_Log__check_joined
  have G_Log_last : HasM l.prog w K mg base C_Log 1 "last" ps_Log_last (spLast C_Log) := has_loglast D_Log_last T W
  have G_Log__is_dropped : HasM l.prog w K mg base C_Log 2 "_is_dropped" ps_Log__is_dropped (spIsd C_Log) := has_logisd D_Log__is_dropped T W G_Log_last
  have G_Log_readers : HasM l.prog w K mg base C_Log 1 "readers" ps_Log_readers (spReaders C_Log) := has_logreaders D_Log_readers T W
  have G_Log_wrong : HasM l.prog w K mg base C_Log 3 "wrong" ps_Log_wrong (spLogWrong C_Log) := has_logwrong D_Log_wrong T W G_Log_table G_Log__is_dropped
  have G_law_take : Has l.prog w K mg base 1 "_law_take" ps_law_take spTake := has_take D_law_take T
  have G_law_box : Has l.prog w K mg base 1 "_law_box" ps_law_box (spBox K) := has_box D_law_box T
  have G_law_of : Has l.prog w K mg base 2 "_law_of" ps_law_of spOf := has_of D_law_of T G_law_take
  have G_law_event : Has l.prog w K mg base 3 "_law_event" ps_law_event spEvent := has_event D_law_event T G_law_take G_law_of
  have G_law_moved : Has l.prog w K mg base 1 "_law_moved" ps_law_moved spMoved := has_moved D_law_moved T
  have G_law_table : Has l.prog w K mg base 4 "_law_table" ps_law_table spTable := has_table D_law_table T G_law_event G_law_moved
  have G_law_ended : Has l.prog w K mg base 2 "_law_ended" ps_law_ended spEnded := has_ended D_law_ended T G_law_moved
  have G_law_lots : Has l.prog w K mg base 2 "_law_lots" ps_law_lots spLots := has_lots D_law_lots T G_law_take
  have G_law_beside : Has l.prog w K mg base 2 "_law_beside" ps_law_beside spBeside := has_beside D_law_beside T G_law_take
  have G_law_fit : Has l.prog w K mg base 3 "_law_fit" ps_law_fit spFit := has_fit D_law_fit T G_law_take G_law_moved G_law_lots G_law_beside G_law_ended
  have G_law_drawn : Has l.prog w K mg base 5 "_law_drawn" ps_law_drawn spDrawn := has_drawn D_law_drawn T G_law_take G_law_of G_law_fit G_law_table G_law_ended
  have G_law_many : Has l.prog w K mg base 1 "_law_many" ps_law_many spMany := has_many D_law_many T
  have G_law_some_broom : Has l.prog w K mg base 3 "_law_some_broom" ps_law_some_broom (spBroom K) := has_broom D_law_some_broom T G_law_take G_law_of G_law_many
  have G_law_same : Has l.prog w K mg base 5 "_law_same" ps_law_same (spSame K 4) := has_same D_law_same T 4
  have G_law_bare : Has l.prog w K mg base 1 "_law_bare" ps_law_bare spMBare := has_mbare D_law_bare T
  have G_law_least : Has l.prog w K mg base 1 "_law_least" ps_law_least spMLeast := has_mleast D_law_least T
  have G_law_leave : Has l.prog w K mg base 2 "_law_leave" ps_law_leave spMLeave := has_mleave D_law_leave T G_law_least
  have G_law_swept : Has l.prog w K mg base 3 "_law_swept" ps_law_swept spMSwept := has_mswept D_law_swept T G_law_leave
  have G_law_heard : Has l.prog w K mg base 1 "_law_heard" ps_law_heard spMHeard := has_mheard D_law_heard T
  have G_law_did : Has l.prog w K mg base 2 "_law_did" ps_law_did spMDid := has_mdid D_law_did T G_law_heard
  have R_lr := ok_mrun (P := l.prog) (w := w) (mg := mg) (base := base) F_lr T G_law_bare G_law_leave G_law_swept G_law_did
  have G_law_run : Has l.prog w K mg base 4 "_law_run" ps_law_run spMRun := ⟨_, _, R_lr, m_lr, k45, lr4 F_lr⟩
  have B3_law_run : HasB l.prog w K mg base 4 "_law_run" ps_law_run [.non] spMRun := (lr3 F_lr).elim fun ds z => ⟨_, _, ds, R_lr, m_lr, k45, z.2, z.1⟩
  have G_law_wrong : Has l.prog w K mg base 1 "_law_wrong" ps_law_wrong spMWrong := has_mwrong D_law_wrong T
  have G_law_sets : Has l.prog w K mg base 5 "_law_sets" ps_law_sets (spSets 4) := has_sets D_law_sets T 4
  have G_law_end : Has l.prog w K mg base 4 "_law_end" ps_law_end (spEndL K C_Log) := has_endl D_law_end T W G_Log_there G_Log_readers G_Log_seat G_Log_table G_Log_wrong
  have G_law_own_end : Has l.prog w K mg base 2 "_law_own_end" ps_law_own_end (spEndM K) := has_endm D_law_own_end T G_law_wrong
  have G_law_right : Has l.prog w K mg base 9 "_law_right" ps_law_right spRight := has_right D_law_right T (nilT e23_0) (nilT e23_1) G_law_take G_law_drawn G_law_some_broom G_law_same G_law_sets G_run B2_run G_law_end G_law_own_end G_law_run B3_law_run
  exact ok_law F_law T G_law_box G_law_right
end PK
open PySem PySem.W PyProof.Rows
set_option maxHeartbeats 0 in
theorem PySem.Challenge.cw_missedmarks_k07_guards_and_sweeps_holds : PySem.Challenge.rw_missedmarks_k07_guards_and_sweeps.Holds := by
  w_on; o_law; k_head; (case hw => w_witness2)
  k_fill
  refine L2.walk_of (l := PySem.Challenge.rw_missedmarks_k07_guards_and_sweeps) (n := 63) (k := 10) (x := "_law_script") (CX := fun _ => L2.CX0) (sp := fun w => PK.spLaw _) rfl (by decide) rfl ⟨rfl, by decide, by decide⟩ (fun w h Y => PySem.W.kIn_of Y) ?F (fun _ _ a ns hl _ hS => ⟨a, ns, rfl, hS, hl, fun _ => rfl⟩) (fun _ _ _ _ _ h => h)
  case F =>
    intro w mg fa h KX G hmg
    refine' PK.all_mk KX G hmg ?aC_Log ?pg_Log ?hd_Log ?po_Log ?sa_Log ?mk_Log ?kc_Log ?n0_Log ?n1_Log ?n2_Log ?n3_Log ?n4_Log ?n5_Log ?n6_Log ?n7_Log ?n8_Log ?a0 ?i0 ?l0 ?c0 ?k0 ?t0 ?e0_0 ?a1 ?i1 ?l1 ?c1 ?k1 ?a2 ?i2 ?l2 ?c2 ?k2 ?a3 ?i3 ?l3 ?c3 ?k3 ?a4 ?i4 ?l4 ?c4 ?k4 ?a5 ?i5 ?l5 ?c5 ?k5 ?a6 ?i6 ?l6 ?c6 ?k6 ?a7 ?i7 ?l7 ?c7 ?k7 ?a8 ?i8 ?l8 ?c8 ?k8 ?a9 ?i9 ?l9 ?c9 ?k9 ?a10 ?i10 ?l10 ?c10 ?k10 ?a11 ?i11 ?l11 ?c11 ?k11 ?a12 ?i12 ?l12 ?c12 ?k12 ?a13 ?i13 ?l13 ?c13 ?k13 ?a14 ?i14 ?l14 ?c14 ?k14 ?a15 ?i15 ?l15 ?c15 ?k15 ?a16 ?i16 ?l16 ?c16 ?k16 ?a17 ?i17 ?l17 ?c17 ?k17 ?a18 ?i18 ?l18 ?c18 ?k18 ?a19 ?i19 ?l19 ?c19 ?k19 ?a20 ?i20 ?l20 ?c20 ?k20 ?a21 ?i21 ?l21 ?c21 ?k21 ?a22 ?i22 ?l22 ?c22 ?k22 ?a23 ?l23 ?c23 ?k23 ?t23 ?e23_0 ?e23_1 ?a24 ?l24 ?c24 ?k24 ?a25 ?l25 ?c25 ?k25 ?a26 ?l26 ?c26 ?k26 ?a27 ?l27 ?c27 ?k27 ?a28 ?l28 ?c28 ?k28 ?a29 ?l29 ?c29 ?k29 ?a30 ?l30 ?c30 ?k30 ?a31 ?l31 ?c31 ?k31 ?a32 ?l32 ?c32 ?k32 ?a33 ?l33 ?c33 ?k33 ?a34 ?l34 ?c34 ?k34 ?a35 ?l35 ?c35 ?k35 ?a36 ?l36 ?c36 ?k36 ?a37 ?l37 ?c37 ?k37 ?a38 ?l38 ?c38 ?k38 ?a39 ?l39 ?c39 ?k39 ?a40 ?l40 ?c40 ?k40 ?a41 ?l41 ?c41 ?k41 ?a42 ?l42 ?c42 ?k42 ?a43 ?l43 ?c43 ?k43 ?a44 ?l44 ?c44 ?k44 ?a45 ?l45 ?c45 ?k45 ?t45 ?a46 ?l46 ?c46 ?k46 ?a47 ?l47 ?c47 ?k47 ?a48 ?l48 ?c48 ?k48 ?a49 ?l49 ?c49 ?k49 ?a50 ?l50 ?c50 ?k50 ?a51 ?l51 ?c51 ?k51 ?z0 ?z1 ?z2 ?z3 ?z4 ?z5 ?z6 ?z7 ?z8 ?z9 ?z10 ?z11 ?z12 ?z13 ?z14 ?z15 ?z16 ?z17 ?z18 ?z19
    (case aC_Log => k_is); (case pg_Log => k_is); (case hd_Log => k_is); (case po_Log => k_is); (case sa_Log => k_is); (case mk_Log => k_is); (case kc_Log => k_is); (case n0_Log => k_is)
    (case n1_Log => k_is); (case n2_Log => k_is); (case n3_Log => k_is); (case n4_Log => k_is); (case n5_Log => k_is); (case n6_Log => k_is); (case n7_Log => k_is); (case n8_Log => k_is)
    (case a0 => k_is); (case i0 => k_is); (case l0 => k_is); (case c0 => k_is); (case k0 => k_is); (case t0 => k_is); (case e0_0 => k_is); (case a1 => k_is)
    (case i1 => k_is); (case l1 => k_is); (case c1 => k_is); (case k1 => k_is); (case a2 => k_is); (case i2 => k_is); (case l2 => k_is); (case c2 => k_is)
    (case k2 => k_is); (case a3 => k_is); (case i3 => k_is); (case l3 => k_is); (case c3 => k_is); (case k3 => k_is); (case a4 => k_is); (case i4 => k_is)
    (case l4 => k_is); (case c4 => k_is); (case k4 => k_is); (case a5 => k_is); (case i5 => k_is); (case l5 => k_is); (case c5 => k_is); (case k5 => k_is)
    (case a6 => k_is); (case i6 => k_is); (case l6 => k_is); (case c6 => k_is); (case k6 => k_is); (case a7 => k_is); (case i7 => k_is); (case l7 => k_is)
    (case c7 => k_is); (case k7 => k_is); (case a8 => k_is); (case i8 => k_is); (case l8 => k_is); (case c8 => k_is); (case k8 => k_is); (case a9 => k_is)
    (case i9 => k_is); (case l9 => k_is); (case c9 => k_is); (case k9 => k_is); (case a10 => k_is); (case i10 => k_is); (case l10 => k_is); (case c10 => k_is)
    (case k10 => k_is); (case a11 => k_is); (case i11 => k_is); (case l11 => k_is); (case c11 => k_is); (case k11 => k_is); (case a12 => k_is); (case i12 => k_is)
    (case l12 => k_is); (case c12 => k_is); (case k12 => k_is); (case a13 => k_is); (case i13 => k_is); (case l13 => k_is); (case c13 => k_is); (case k13 => k_is)
    (case a14 => k_is); (case i14 => k_is); (case l14 => k_is); (case c14 => k_is); (case k14 => k_is); (case a15 => k_is); (case i15 => k_is); (case l15 => k_is)
    (case c15 => k_is); (case k15 => k_is); (case a16 => k_is); (case i16 => k_is); (case l16 => k_is); (case c16 => k_is); (case k16 => k_is); (case a17 => k_is)
    (case i17 => k_is); (case l17 => k_is); (case c17 => k_is); (case k17 => k_is); (case a18 => k_is); (case i18 => k_is); (case l18 => k_is); (case c18 => k_is)
    (case k18 => k_is); (case a19 => k_is); (case i19 => k_is); (case l19 => k_is); (case c19 => k_is); (case k19 => k_is); (case a20 => k_is); (case i20 => k_is)
    (case l20 => k_is); (case c20 => k_is); (case k20 => k_is); (case a21 => k_is); (case i21 => k_is); (case l21 => k_is); (case c21 => k_is); (case k21 => k_is)
    (case a22 => k_is); (case i22 => k_is); (case l22 => k_is); (case c22 => k_is); (case k22 => k_is); (case a23 => k_is); (case l23 => k_is); (case c23 => k_is)
    (case k23 => k_is); (case t23 => k_is); (case e23_0 => k_is); (case e23_1 => k_is); (case a24 => k_is); (case l24 => k_is); (case c24 => k_is); (case k24 => k_is)
    (case a25 => k_is); (case l25 => k_is); (case c25 => k_is); (case k25 => k_is); (case a26 => k_is); (case l26 => k_is); (case c26 => k_is); (case k26 => k_is)
    (case a27 => k_is); (case l27 => k_is); (case c27 => k_is); (case k27 => k_is); (case a28 => k_is); (case l28 => k_is); (case c28 => k_is); (case k28 => k_is)
    (case a29 => k_is); (case l29 => k_is); (case c29 => k_is); (case k29 => k_is); (case a30 => k_is); (case l30 => k_is); (case c30 => k_is); (case k30 => k_is)
    (case a31 => k_is); (case l31 => k_is); (case c31 => k_is); (case k31 => k_is); (case a32 => k_is); (case l32 => k_is); (case c32 => k_is); (case k32 => k_is)
    (case a33 => k_is); (case l33 => k_is); (case c33 => k_is); (case k33 => k_is); (case a34 => k_is); (case l34 => k_is); (case c34 => k_is); (case k34 => k_is)
    (case a35 => k_is); (case l35 => k_is); (case c35 => k_is); (case k35 => k_is); (case a36 => k_is); (case l36 => k_is); (case c36 => k_is); (case k36 => k_is)
    (case a37 => k_is); (case l37 => k_is); (case c37 => k_is); (case k37 => k_is); (case a38 => k_is); (case l38 => k_is); (case c38 => k_is); (case k38 => k_is)
    (case a39 => k_is); (case l39 => k_is); (case c39 => k_is); (case k39 => k_is); (case a40 => k_is); (case l40 => k_is); (case c40 => k_is); (case k40 => k_is)
    (case a41 => k_is); (case l41 => k_is); (case c41 => k_is); (case k41 => k_is); (case a42 => k_is); (case l42 => k_is); (case c42 => k_is); (case k42 => k_is)
    (case a43 => k_is); (case l43 => k_is); (case c43 => k_is); (case k43 => k_is); (case a44 => k_is); (case l44 => k_is); (case c44 => k_is); (case k44 => k_is)
    (case a45 => k_is); (case l45 => k_is); (case c45 => k_is); (case k45 => k_is); (case t45 => k_is); (case a46 => k_is); (case l46 => k_is); (case c46 => k_is)
    (case k46 => k_is); (case a47 => k_is); (case l47 => k_is); (case c47 => k_is); (case k47 => k_is); (case a48 => k_is); (case l48 => k_is); (case c48 => k_is)
    (case k48 => k_is); (case a49 => k_is); (case l49 => k_is); (case c49 => k_is); (case k49 => k_is); (case a50 => k_is); (case l50 => k_is); (case c50 => k_is)
    (case k50 => k_is); (case a51 => k_is); (case l51 => k_is); (case c51 => k_is); (case k51 => k_is); (case z0 => k_is); (case z1 => k_is); (case z2 => k_is)
    (case z3 => k_is); (case z4 => k_is); (case z5 => k_is); (case z6 => k_is); (case z7 => k_is); (case z8 => k_is); (case z9 => k_is); (case z10 => k_is)
    (case z11 => k_is); (case z12 => k_is); (case z13 => k_is); (case z14 => k_is); (case z15 => k_is); (case z16 => k_is); (case z17 => k_is); (case z18 => k_is)
    (case z19 => k_is)

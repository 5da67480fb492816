import PyProof.Rows.All
import Wide.All
import OpenK.AllK
import Wide.FinOn
import Open.SpecLaws
import KE.OsGo
import HandS.ForSpec
import HandS.Comp
import HandS.Iter
import HandS.Walk
import HandS.Codes
import HandS.Lambda
import HandS.NoneIn
import HandS.SetFor
import HandS.StrMore
import HandS.FStr
import HandS.SortKw
import HandS.Dict
import KE.SortKeyHeap
import PyProof.StrOps2
import PySem.Challenge.RW_washloads_s01_answers
import HandS.Nested
import HandS.Keys
import PyFlatLaws
import HandS.Spec
import HandS.EndTab
import KE.KNestM
set_option Elab.async false
set_option maxRecDepth 100000
set_option maxHeartbeats 8000000
set_option linter.unusedVariables false

/-! The laundry: what stands where, and how readings are answered while the heap grows. -/
namespace Wash
open PySem PySem.Spec PyProof.Rows L2

/-! ### 1. The text by places -/
def tops (i : Nat) : Stmt := PySem.Challenge.pw_washloads_s01_answers.main.body.getD i (.Pass ⟨0, 0, 0, 0⟩)
/-! the addresses at which the top leaves its classes, tables, tuples -/
abbrev qLam : Str := Str.ofString "House.waiting_things.<locals>.<lambda>"
def tabP : Addr := 267

/-! ### 2. A heap that grows: all but the table stands -/
def NT (o : HO) : Prop := ∀ ps, o ≠ .tbl ps
theorem nt_ins {C dx : Addr} {fs : List (Str × V)} : NT (.ins C dx fs) := fun _ h => by cases h
theorem nt_lst {xs : List V} : NT (.lst xs) := fun _ h => by cases h
theorem nt_tup {xs : List V} : NT (.tup xs) := fun _ h => by cases h
theorem nt_frz {o : Obj} {u : HO} : NT (.frz o u) := fun _ h => by cases h
abbrev Tb (H : Hp) : Prop := LamX.TabS H tabP qLam
structure Xt (H H' : Hp) : Prop where
  k : ∀ b o, H b = some o → NT o → H' b = some o
  t : Tb H → Tb H'
theorem Xt.refl (H : Hp) : Xt H H := ⟨fun _ _ h _ => h, fun h => h⟩
theorem Xt.trans {H H1 H2 : Hp} (a : Xt H H1) (b : Xt H1 H2) : Xt H H2 := ⟨fun c o h n => b.k c o (a.k c o h n) n, fun h => b.t (a.t h)⟩
theorem Xt.same {H H' : Hp} (e : Same H H') : Xt H H' := ⟨fun b o h _ => e b o h, fun h => LamX.TabS.ext h e⟩
theorem same_new {H : Hp} {p : Addr} {o : HO} (h : H p = none) : Same H (upd H p o) := fun a u e => by
  rw [upd_ne (ne_of_none e h)]
  exact e
theorem Xt.new {H : Hp} {p : Addr} {o : HO} (h : H p = none) : Xt H (upd H p o) := .same (same_new h)
/-- nothing that stays stands at p -/
def Nw (H : Hp) (p : Addr) : Prop := ∀ o, H p = some o → NT o → False
theorem Nw.of {H : Hp} {p : Addr} (h : H p = none) : Nw H p := fun o e _ => by
  rw [h] at e
  cases e
theorem Nw.back {H H1 : Hp} {p : Addr} (e : Xt H H1) (h : Nw H1 p) : Nw H p := fun o q n => h o (e.k _ _ q n) n
theorem Nw.ne {H : Hp} {p b : Addr} {o : HO} (h : Nw H p) (e : H b = some o) (n : NT o) : b ≠ p := fun z => by
  subst z
  exact h o e n
theorem sq_mono {K : PySem.W.Frag} {H H' : Hp} {a : Addr} {xs : List V} (e : Xt H H') (h : SqL K H a xs) : SqL K H' a xs := by
  rcases h with (h | ⟨o, h⟩) | h
  · exact .inl (.inl (e.k _ _ h nt_lst))
  · exact .inl (.inr ⟨o, e.k _ _ h nt_frz⟩)
  · exact .inr h
theorem st_mono {K : PySem.W.Frag} {H H' : Hp} {a : Addr} {xs : List V} (e : Xt H H') (h : SqT K H a xs) : SqT K H' a xs := by
  rcases h with (h | ⟨o, h⟩) | h
  · exact .inl (.inl (e.k _ _ h nt_tup))
  · exact .inl (.inr ⟨o, e.k _ _ h nt_frz⟩)
  · exact .inr h
theorem szl {n : Nat} (h : n ≤ 100000) : n ≤ sizeLine := Nat.le_trans h (by decide)
theorem szlt {n : Nat} (h : n < 100000) : n < sizeLine := Nat.lt_of_lt_of_le h (by decide)

/-! ### 3. What a reading comes to -/
def Ev (te : TE) (σ : L2.St) (H : Hp) (v : V) : Prop := ∀ H1, Xt H H1 → ∀ Q : VK, (∀ H2, Xt H1 H2 → Q v H2) → te σ H1 Q
/-- a new object -/
def EvN (te : TE) (σ : L2.St) (H : Hp) (o : HO) : Prop := ∀ H1, Xt H H1 → ∀ Q : VK, (∀ p H2, Nw H1 p → Xt H1 H2 → H2 p = some o → Q (.ref p) H2) → te σ H1 Q
def EvT (tt : TT) (σ : L2.St) (H : Hp) (b : Bool) : Prop := ∀ H1, Xt H H1 → ∀ Q : Bool → Hp → Prop, (∀ H2, Xt H1 H2 → Q b H2) → tt σ H1 Q
def EvA (ta : TA) (σ : L2.St) (H : Hp) (R : List V → Hp → Prop) : Prop := ∀ H1, Xt H H1 → ∀ Q : List V → Hp → Prop, (∀ vs H2, Xt H1 H2 → R vs H2 → Q vs H2) → ta σ H1 Q
def EvI (wi : TI) (σ : L2.St) (H : Hp) (J : It) : Prop := ∀ H1, Xt H H1 → ∀ R : It → Hp → Prop, (∀ H2, Xt H1 H2 → R J H2) → wi σ H1 R
/-- operators, calls by values, the heap as it is -/
def RV (r : R2) (x y : V) (H : Hp) (z : V) : Prop := ∀ H1, Xt H H1 → ∀ Q : VK, Q z H1 → r x y H1 Q
def RC (r : List V → Hp → VK → Prop) (vs : List V) (H : Hp) (z : V) : Prop := ∀ H1, Xt H H1 → ∀ Q : VK, (∀ H2, Xt H1 H2 → Q z H2) → r vs H1 Q
def RCN (r : List V → Hp → VK → Prop) (vs : List V) (H : Hp) (o : HO) : Prop := ∀ H1, Xt H H1 → ∀ Q : VK, (∀ p H2, Nw H1 p → Xt H1 H2 → H2 p = some o → Q (.ref p) H2) → r vs H1 Q
/-- the two shapes of a promise -/
def RetV (v : V) (H : Hp) (Q : VK) : Prop := ∀ H2, Xt H H2 → Q v H2
def RetN (o : HO) (H : Hp) (Q : VK) : Prop := ∀ p H2, Nw H p → Xt H H2 → H2 p = some o → Q (.ref p) H2

section
variable {K : PySem.W.Frag} {σ : L2.St} {H H' : Hp} {ta tb te tc : TE} {t u : TT} {x y z v : V} {r r' : R2} {o o' : HO}
theorem Ev.mono (e : Xt H H') (h : Ev te σ H v) : Ev te σ H' v := fun H1 a Q q => h H1 (e.trans a) Q q
theorem EvN.mono (e : Xt H H') (h : EvN te σ H o) : EvN te σ H' o := fun H1 a Q q => h H1 (e.trans a) Q q
theorem EvT.mono {b : Bool} (e : Xt H H') (h : EvT t σ H b) : EvT t σ H' b := fun H1 a Q q => h H1 (e.trans a) Q q
theorem EvA.mono {ta : TA} {R : List V → Hp → Prop} (e : Xt H H') (h : EvA ta σ H R) : EvA ta σ H' R := fun H1 a Q q => h H1 (e.trans a) Q q
theorem RV.mono (e : Xt H H') (h : RV r x y H z) : RV r x y H' z := fun H1 a Q q => h H1 (e.trans a) Q q
theorem e_var {i : Nat} (h : σ[i]? = some (some v) := by rfl) : Ev (tVar i) σ H v := fun H1 _ _ q => ⟨v, h, q H1 (Xt.refl H1)⟩
theorem e_c : Ev (tC v) σ H v := fun H1 _ _ q => q H1 (Xt.refl H1)
theorem e_is {w : V} (h : Ev te σ H v) (e : v = w) : Ev te σ H w := e ▸ h
theorem e_fld {a C dx : Addr} {fs : List (Str × V)} {f : Str} (h : Ev te σ H (.ref a)) (ho : H a = some (.ins C dx fs)) (c : Cls K C) (n : NoAttr K C f) (l : fs.lookup f = some v) : Ev (tFld K te f) σ H v := fun H1 e Q q =>
  h H1 e _ fun H2 e2 => ⟨a, C, dx, fs, v, rfl, (e.trans e2).k _ _ ho nt_ins, c, n, l, q H2 e2⟩
theorem e_op (ha : Ev ta σ H x) (hb : Ev tb σ H y) (hr : RV r x y H z) : Ev (tOp r ta tb) σ H z := fun H1 e Q q =>
  ha H1 e _ fun H2 e2 => hb H2 (e.trans e2) _ fun H3 e3 => hr H3 ((e.trans e2).trans e3) Q (q H3 (e2.trans e3))
theorem e_op2 (ha : Ev ta σ H x) (hb : EvN tb σ H o) (hr : ∀ p H1, Xt H H1 → H1 p = some o → RV r x (.ref p) H1 z) : Ev (tOp r ta tb) σ H z := fun H1 e Q q =>
  ha H1 e _ fun H2 e2 => hb H2 (e.trans e2) _ fun p H3 _ e3 hp => hr p H3 ((e.trans e2).trans e3) hp H3 (Xt.refl H3) Q (q H3 (e2.trans e3))
theorem e_op1 (no : NT o) (ha : EvN ta σ H o) (hb : Ev tb σ H y) (hr : ∀ p H1, Xt H H1 → H1 p = some o → RV r (.ref p) y H1 z) : Ev (tOp r ta tb) σ H z := fun H1 e Q q =>
  ha H1 e _ fun p H2 _ e2 hp => hb H2 (e.trans e2) _ fun H3 e3 => hr p H3 ((e.trans e2).trans e3) (e3.k _ _ hp no) H3 (Xt.refl H3) Q (q H3 (e2.trans e3))
theorem rv_i {C : Int → Int → Prop} {g : Int → Int → V} {i j : Int} (hc : C i j) : RV (rI C g) (.int i) (.int j) H (g i j) := fun _ _ _ q => ⟨i, j, rfl, rfl, hc, q⟩
theorem rv_i0 {g : Int → Int → V} {i j : Int} : RV (rI0 g) (.int i) (.int j) H (g i j) := fun _ _ _ q => ⟨i, j, rfl, rfl, q⟩
theorem rv_eq (h : scal x y = true := by rfl) : RV rEq x y H (.bl (decide (x = y))) := fun _ _ _ q => ⟨h, q⟩
theorem rv_ne (h : scal x y = true := by rfl) : RV rNe x y H (.bl (!decide (x = y))) := fun _ _ _ q => ⟨h, q⟩
theorem rv_l {p : Addr} {xs : List V} {i : Int} (h : SqL K H p xs) (ha : atI xs i = some v) : RV (rIxL K) (.ref p) (.int i) H v := fun _ e _ q => ⟨p, xs, i, v, rfl, rfl, sq_mono e h, ha, q⟩
theorem rv_t {p : Addr} {xs : List V} {i : Int} (h : SqT K H p xs) (ha : atI xs i = some v) : RV (rIxT K) (.ref p) (.int i) H v := fun _ e _ q => ⟨p, xs, i, v, rfl, rfl, st_mono e h, ha, q⟩
theorem rv_inL {neg : Bool} {p : Addr} {xs : List V} (h : SqL K H p xs) (hx : flatV x = true) (ha : xs.all flatV = true) : RV (rIn K neg) x (.ref p) H (.bl (if neg then !inV x xs else inV x xs)) := fun _ e _ q => ⟨p, xs, rfl, .inl (sq_mono e h), hx, ha, q⟩
theorem rv_inT {neg : Bool} {p : Addr} {xs : List V} (h : SqT K H p xs) (hx : flatV x = true) (ha : xs.all flatV = true) : RV (rIn K neg) x (.ref p) H (.bl (if neg then !inV x xs else inV x xs)) := fun _ e _ q => ⟨p, xs, rfl, .inr (st_mono e h), hx, ha, q⟩
theorem e_un {i : Int} {g : Int → V} (ha : Ev ta σ H (.int i)) : Ev (tUn (rU g) ta) σ H (g i) := fun H1 e Q q => ha H1 e _ fun H2 e2 => ⟨i, rfl, q H2 e2⟩
/-! tests -/
theorem t_test {b : Bool} (h : Ev te σ H (.bl b)) : EvT (tTest te) σ H b := fun H1 e _ q => h H1 e _ fun H2 e2 => ⟨b, rfl, q H2 e2⟩
theorem t_b {b : Bool} (h : Ev te σ H (.bl b)) : EvT (tB te) σ H b := fun H1 e _ q => h H1 e _ fun H2 e2 => ⟨b, rfl, q H2 e2⟩
theorem t_is {a b : Bool} (h : EvT t σ H a) (e : a = b) : EvT t σ H b := e ▸ h
theorem t_yes : EvT tYes σ H true := fun H1 _ _ q => q H1 (Xt.refl H1)
theorem t_not {a : Bool} (h : EvT t σ H a) : EvT (tNot t) σ H (!a) := fun H1 e _ q => h H1 e _ fun H2 e2 => q H2 e2
theorem t_and {a b : Bool} (h : EvT t σ H a) (h2 : a = true → EvT u σ H b) : EvT (tAnd t u) σ H (a && b) := fun H1 e Q q => h H1 e _ fun H2 e2 => by
  cases a with
  | true =>
    rw [if_pos rfl]
    exact h2 rfl H2 (e.trans e2) Q fun H3 e3 => q H3 (e2.trans e3)
  | false =>
    rw [if_neg Bool.false_ne_true]
    exact q H2 e2
theorem t_or {a b : Bool} (h : EvT t σ H a) (h2 : a = false → EvT u σ H b) : EvT (tOr t u) σ H (a || b) := fun H1 e Q q => h H1 e _ fun H2 e2 => by
  cases a with
  | true =>
    rw [if_pos rfl]
    exact q H2 e2
  | false =>
    rw [if_neg Bool.false_ne_true]
    exact h2 rfl H2 (e.trans e2) Q fun H3 e3 => q H3 (e2.trans e3)
theorem e_not {a : Bool} (h : Ev ta σ H (.bl a)) : Ev (tNotV ta) σ H (.bl (!a)) := fun H1 e _ q => h H1 e _ fun H2 e2 => ⟨a, rfl, q H2 e2⟩
theorem e_and {a b : Bool} (h : Ev ta σ H (.bl a)) (h2 : a = true → Ev tb σ H (.bl b)) : Ev (tAndV ta tb) σ H (.bl (a && b)) := fun H1 e Q q => h H1 e _ fun H2 e2 => ⟨a, rfl, by
  cases a with
  | true =>
    rw [if_pos rfl]
    exact h2 rfl H2 (e.trans e2) Q fun H3 e3 => q H3 (e2.trans e3)
  | false =>
    rw [if_neg Bool.false_ne_true]
    exact q H2 e2⟩
theorem e_ifx {b : Bool} (h : EvT t σ H b) (h1 : b = true → Ev ta σ H v) (h2 : b = false → Ev tb σ H v) : Ev (tIf t ta tb) σ H v := fun H1 e Q q => h H1 e _ fun H2 e2 => by
  cases b with
  | true =>
    show ta σ H2 Q
    exact h1 rfl H2 (e.trans e2) Q fun H3 e3 => q H3 (e2.trans e3)
  | false =>
    show tb σ H2 Q
    exact h2 rfl H2 (e.trans e2) Q fun H3 e3 => q H3 (e2.trans e3)
/-- a ≤ b ≤ c of numbers, as a value; as a test -/
theorem e_chain {i j l : Int} {g g' : Int → Int → Bool} (ha : Ev ta σ H (.int i)) (hb : Ev tb σ H (.int j)) (hc : Ev tc σ H (.int l)) :
    Ev (tChain (rI0 fun i j => .bl (g i j)) (rI0 fun i j => .bl (g' i j)) ta tb tc) σ H (.bl (g i j && g' j l)) := fun H1 e Q q =>
  ha H1 e _ fun H2 e2 => hb H2 (e.trans e2) _ fun H3 e3 => ⟨i, j, rfl, rfl, g i j, rfl, by
    cases h : g i j with
    | true =>
      rw [if_pos rfl]
      rw [h] at q
      exact hc H3 ((e.trans e2).trans e3) _ fun H4 e4 => ⟨j, l, rfl, rfl, q H4 ((e2.trans e3).trans e4)⟩
    | false =>
      rw [if_neg Bool.false_ne_true]
      rw [h] at q
      exact q H3 (e2.trans e3)⟩
/-! lists of arguments, displays -/
theorem a_nil : EvA tNil σ H (fun vs _ => vs = []) := fun H1 _ _ q => q [] H1 (Xt.refl H1) rfl
theorem a_cons {tr : TA} {R : List V → Hp → Prop} (h : Ev ta σ H x) (hr : EvA tr σ H R) : EvA (tCons ta tr) σ H (fun vs H2 => ∃ r, vs = x :: r ∧ R r H2) := fun H1 e _ q =>
  h H1 e _ fun H2 e2 => hr H2 (e.trans e2) _ fun vs H3 e3 k => q _ H3 (e2.trans e3) ⟨vs, rfl, k⟩
theorem a_consN {tr : TA} {R : List V → Hp → Prop} (no : NT o) (h : EvN ta σ H o) (hr : EvA tr σ H R) : EvA (tCons ta tr) σ H (fun vs H2 => ∃ p r, vs = .ref p :: r ∧ Nw H p ∧ H2 p = some o ∧ R r H2) := fun H1 e _ q =>
  h H1 e _ fun p H2 f e2 hp => hr H2 (e.trans e2) _ fun vs H3 e3 k => q _ H3 (e2.trans e3) ⟨p, vs, rfl, .back e f, e3.k _ _ hp no, k⟩
/-- plain values alone -/
def EvVs (ta : TA) (σ : L2.St) (H : Hp) (ws : List V) : Prop := EvA ta σ H (fun vs _ => vs = ws)
theorem v_nil : EvVs tNil σ H [] := a_nil
theorem v_cons {tr : TA} {ws : List V} (h : Ev ta σ H x) (hr : EvVs tr σ H ws) : EvVs (tCons ta tr) σ H (x :: ws) := fun H1 e _ q =>
  h H1 e _ fun H2 e2 => hr H2 (e.trans e2) _ fun vs H3 e3 k => q _ H3 (e2.trans e3) (by rw [k])
theorem n_lst {ta : TA} {ws : List V} (h : EvVs ta σ H ws) (hl : ws.length ≤ 100000 := by decide) : EvN (tLst ta) σ H (.lst ws) := fun H1 e Q q =>
  h H1 e _ fun vs H2 e2 k => by
    subst k
    exact ⟨szl hl, fun p hp => q p _ (.back e2 (.of hp)) (e2.trans (.new hp)) upd_same⟩
theorem n_tup {ta : TA} {ws : List V} (h : EvVs ta σ H ws) (hl : ws.length ≤ 100000 := by decide) : EvN (tTup ta) σ H (.tup ws) := fun H1 e Q q =>
  h H1 e _ fun vs H2 e2 k => by
    subst k
    exact ⟨szl hl, fun p hp => q p _ (.back e2 (.of hp)) (e2.trans (.new hp)) upd_same⟩
/-! built-in functions, own defs, methods -/
theorem e_cb {r : List V → Hp → VK → Prop} {ta : TA} {R : List V → Hp → Prop} (ha : EvA ta σ H R) (hr : ∀ vs H1, Xt H H1 → R vs H1 → RC r vs H1 z) : Ev (tCB r ta) σ H z := fun H1 e Q q =>
  ha H1 e _ fun vs H2 e2 k => hr vs H2 (e.trans e2) k H2 (Xt.refl H2) Q fun H3 e3 => q H3 (e2.trans e3)
theorem n_cb {r : List V → Hp → VK → Prop} {ta : TA} {R : List V → Hp → Prop} (ha : EvA ta σ H R) (hr : ∀ vs H1, Xt H H1 → R vs H1 → RCN r vs H1 o) : EvN (tCB r ta) σ H o := fun H1 e Q q =>
  ha H1 e _ fun vs H2 e2 k => hr vs H2 (e.trans e2) k H2 (Xt.refl H2) Q fun p H3 f e3 hp => q p H3 (.back e2 f) (e2.trans e3) hp
theorem e_call {sp : Sp} {E : XK} {ta : TA} {R : List V → Hp → Prop} (ha : EvA ta σ H R) (hs : ∀ vs H1, Xt H H1 → R vs H1 → ∀ Q : VK, RetV v H1 Q → sp vs H1 Q E) : Ev (tCall sp [] E ta) σ H v := fun H1 e Q q =>
  ha H1 e _ fun vs H2 e2 k => by
    rw [List.append_nil]
    exact hs vs H2 (e.trans e2) k Q fun H3 e3 => q H3 (e2.trans e3)
theorem n_call {sp : Sp} {E : XK} {ta : TA} {R : List V → Hp → Prop} (ha : EvA ta σ H R) (hs : ∀ vs H1, Xt H H1 → R vs H1 → ∀ Q : VK, RetN o H1 Q → sp vs H1 Q E) : EvN (tCall sp [] E ta) σ H o := fun H1 e Q q =>
  ha H1 e _ fun vs H2 e2 k => by
    rw [List.append_nil]
    exact hs vs H2 (e.trans e2) k Q fun p H3 f e3 hp => q p H3 (.back e2 f) (e2.trans e3) hp
theorem e_meth {sp : Sp} {E : XK} {ta : TA} {R : List V → Hp → Prop} {a C dx : Addr} {fs : List (Str × V)} {m : Str} (h : Ev te σ H (.ref a)) (ho : H a = some (.ins C dx fs)) (l : fs.lookup m = none) (ha : EvA ta σ H R)
    (hs : ∀ vs H1, Xt H H1 → R vs H1 → ∀ Q : VK, RetV v H1 Q → sp (.ref a :: vs) H1 Q E) : Ev (tMeth C m sp [] E te ta) σ H v := fun H1 e Q q =>
  h H1 e _ fun H2 e2 => ⟨a, dx, fs, rfl, (e.trans e2).k _ _ ho nt_ins, l, ha H2 (e.trans e2) _ fun vs H3 e3 k => by
    rw [List.append_nil]
    exact hs vs H3 ((e.trans e2).trans e3) k Q fun H4 e4 => q H4 ((e2.trans e3).trans e4)⟩
theorem n_meth {sp : Sp} {E : XK} {ta : TA} {R : List V → Hp → Prop} {a C dx : Addr} {fs : List (Str × V)} {m : Str} (h : Ev te σ H (.ref a)) (ho : H a = some (.ins C dx fs)) (l : fs.lookup m = none) (ha : EvA ta σ H R)
    (hs : ∀ vs H1, Xt H H1 → R vs H1 → ∀ Q : VK, RetN o H1 Q → sp (.ref a :: vs) H1 Q E) : EvN (tMeth C m sp [] E te ta) σ H o := fun H1 e Q q =>
  h H1 e _ fun H2 e2 => ⟨a, dx, fs, rfl, (e.trans e2).k _ _ ho nt_ins, l, ha H2 (e.trans e2) _ fun vs H3 e3 k => by
    rw [List.append_nil]
    exact hs vs H3 ((e.trans e2).trans e3) k Q fun p H4 f e4 hp => q p H4 (.back (e2.trans e3) f) ((e2.trans e3).trans e4) hp⟩
/-! lists made of lists -/
theorem n_catNN {xs ys : List V} (ha : EvN ta σ H (.lst xs)) (hb : EvN tb σ H (.lst ys)) (hz : xs.length + ys.length ≤ 100000) : EvN (tOp rCat ta tb) σ H (.lst (xs ++ ys)) := fun H1 e Q q =>
  ha H1 e _ fun p H2 _ e2 hp => hb H2 (e.trans e2) _ fun p' H3 _ e3 hp' => ⟨p, p', xs, ys, rfl, rfl, e3.k _ _ hp nt_lst, hp', szl hz, fun l hl => q l _ (.back (e2.trans e3) (.of hl)) ((e2.trans e3).trans (.new hl)) upd_same⟩
theorem n_catN {xs ys : List V} {p' : Addr} (ha : EvN ta σ H (.lst xs)) (hb : Ev tb σ H (.ref p')) (hy : H p' = some (.lst ys)) (hz : xs.length + ys.length ≤ 100000) : EvN (tOp rCat ta tb) σ H (.lst (xs ++ ys)) := fun H1 e Q q =>
  ha H1 e _ fun p H2 _ e2 hp => hb H2 (e.trans e2) _ fun H3 e3 => ⟨p, p', xs, ys, rfl, rfl, e3.k _ _ hp nt_lst, ((e.trans e2).trans e3).k _ _ hy nt_lst, szl hz, fun l hl => q l _ (.back (e2.trans e3) (.of hl)) ((e2.trans e3).trans (.new hl)) upd_same⟩
theorem n_cat1 {xs ys : List V} {p : Addr} (ha : Ev ta σ H (.ref p)) (hx : H p = some (.lst xs)) (hb : EvN tb σ H (.lst ys)) (hz : xs.length + ys.length ≤ 100000) : EvN (tOp rCat ta tb) σ H (.lst (xs ++ ys)) := fun H1 e Q q =>
  ha H1 e _ fun H2 e2 => hb H2 (e.trans e2) _ fun p' H3 _ e3 hp' => ⟨p, p', xs, ys, rfl, rfl, ((e.trans e2).trans e3).k _ _ hx nt_lst, hp', szl hz, fun l hl => q l _ (.back (e2.trans e3) (.of hl)) ((e2.trans e3).trans (.new hl)) upd_same⟩
def EvO (to : TO) (σ : L2.St) (H : Hp) (i : Option Int) : Prop := ∀ H1, Xt H H1 → ∀ Q : Option Int → Hp → Prop, (∀ H2, Xt H1 H2 → Q i H2) → to σ H1 Q
theorem o_some {i : Int} (h : Ev te σ H (.int i)) : EvO (tPart te) σ H (some i) := fun H1 e _ q => h H1 e _ fun H2 e2 => ⟨i, rfl, q H2 e2⟩
theorem n_slice {a : Addr} {xs : List V} {tl th : TO} {lo hi : Option Int} (h : Ev te σ H (.ref a)) (hx : SqL K H a xs) (hl : EvO tl σ H lo) (hh : EvO th σ H hi) : EvN (tSl (rSlL K) te tl th) σ H (.lst (cutV xs lo hi)) := fun H1 e Q q =>
  h H1 e _ fun H2 e2 => hl H2 (e.trans e2) _ fun H3 e3 => hh H3 ((e.trans e2).trans e3) _ fun H4 e4 =>
    ⟨a, xs, rfl, sq_mono (((e.trans e2).trans e3).trans e4) hx, fun p hp => q p _ (.back ((e2.trans e3).trans e4) (.of hp)) (((e2.trans e3).trans e4).trans (.new hp)) upd_same⟩
/-! statements, something behind -/
variable {D : Ends} {tz tu tw : TS}
theorem s_asg {i : Nat} (h : Ev te σ H v) (k : ∀ H1, Xt H H1 → tz D (σ.set i (some v)) H1) : tSeq (tAsg te (gName i)) tz D σ H := h H (Xt.refl H) _ fun H1 e => k H1 e
theorem s_asgN {i : Nat} (h : EvN te σ H o) (k : ∀ p H1, Nw H p → Xt H H1 → H1 p = some o → tz D (σ.set i (some (.ref p))) H1) : tSeq (tAsg te (gName i)) tz D σ H := h H (Xt.refl H) _ fun p H1 f e hp => k p H1 f e hp
theorem s_if {b : Bool} (h : EvT t σ H b) (h1 : b = true → ∀ H1, Xt H H1 → tu { D with nx := tz D } σ H1) (h2 : b = false → ∀ H1, Xt H H1 → tw { D with nx := tz D } σ H1) : tSeq (tIfS t tu tw) tz D σ H := h H (Xt.refl H) _ fun H1 e => by
  cases b with
  | true =>
    rw [if_pos rfl]
    exact h1 rfl H1 e
  | false =>
    rw [if_neg Bool.false_ne_true]
    exact h2 rfl H1 e
theorem s_when {b : Bool} (h : EvT t σ H b) (h1 : b = true → ∀ H1, Xt H H1 → tu { D with nx := tz D } σ H1) (h2 : b = false → ∀ H1, Xt H H1 → tz D σ H1) : tSeq (tIfS t tu tNext) tz D σ H := s_if h h1 h2
theorem s_whenL {b : Bool} (h : EvT t σ H b) (h1 : b = true → ∀ H1, Xt H H1 → tu D σ H1) (h2 : b = false → ∀ H1, Xt H H1 → D.nx σ H1) : tIfS t tu tNext D σ H := h H (Xt.refl H) _ fun H1 e => by
  cases b with
  | true =>
    rw [if_pos rfl]
    exact h1 rfl H1 e
  | false =>
    rw [if_neg Bool.false_ne_true]
    exact h2 rfl H1 e
theorem s_ret (h : Ev te σ H v) (k : RetV v H D.rt) : tRet te D σ H := h H (Xt.refl H) _ k
theorem s_retN (h : EvN te σ H o) (k : RetN o H D.rt) : tRet te D σ H := h H (Xt.refl H) _ k
theorem s_drop (h : Ev te σ H v) (k : ∀ H1, Xt H H1 → tz D σ H1) : tSeq (tDrop te) tz D σ H := h H (Xt.refl H) _ fun H1 e => k H1 e
end
theorem RetV.go {v : V} {H H1 : Hp} {Q : VK} (k : RetV v H Q) (e : Xt H H1) : RetV v H1 Q := fun H2 e2 => k H2 (e.trans e2)
theorem RetN.go {o : HO} {H H1 : Hp} {Q : VK} (k : RetN o H Q) (e : Xt H H1) : RetN o H1 Q := fun p H2 f e2 hp => k p H2 (.back e f) (e.trans e2) hp
end Wash
/-! Rules that the layer lacks: '_' * n, max(.., default=..), tables of the module with whole numbers as keys, a def called out of a table, a class made without arguments. -/
namespace Wash
open PySem PySem.Spec PyProof.Rows L2

/-! ### '_' * n -/
theorem rep_sign (c : Nat) : ∀ (n : Nat) (acc : Array Nat), (List.replicate n (#[c] : Array Nat)).foldl (· ++ ·) acc = acc ++ (List.replicate n c).toArray
  | 0, acc => by simp
  | n + 1, acc => by
    rw [List.replicate_succ, List.foldl_cons, rep_sign c n, List.replicate_succ]
    apply Array.toList_inj.mp
    simp
def rMulStr : R2 := fun x y H Q => ∃ (c n : Nat), x = .str ⟨#[c]⟩ ∧ y = .int (n : Int) ∧ n ≤ 1000 ∧ Q (.str ⟨(List.replicate n c).toArray⟩) H
theorem op_mulStr {X : Cx} : OpR X (binaryOp .Mult) rMulStr := by
  intro pins s σ H x y v u Q I rx ry h
  obtain ⟨c, n, rfl, rfl, hn, q⟩ := h
  obtain ⟨t, rfl⟩ := rx
  obtain ⟨t', rfl⟩ := ry
  have l1 : (⟨#[c]⟩ : Str).length = 1 := rfl
  have e : ((n : Int)).toNat = n := Int.toNat_natCast n
  have small : (decide ((n : Int) < -(2 ^ 63 : Int)) || decide ((n : Int) ≥ 2 ^ 63)) = false := by
    rw [Bool.or_eq_false_iff]
    exact ⟨decide_eq_false (by omega), decide_eq_false (by omega)⟩
  refine P.mul_str small (fun h1 _ h2 => ?_) (fun h1 _ => ?_) ?_
  · have h3 : (1000 : Int) ≤ (2 ^ 63 - 1) / (n : Int) := by
      rw [Int.le_ediv_iff_mul_le (by omega)]
      omega
    rw [l1] at h2
    omega
  · unfold Builtin.Str.tooLong
    rw [l1, e]
    exact decide_eq_false (fun z => by
      have : (1000 : Nat) ≤ sizeLine := by decide
      omega)
  · by_cases h0 : n = 0
    · subst h0
      rw [if_pos (by decide)]
      exact ⟨by decide, .str Str.empty, H, I.tok _, ⟨_, rfl⟩, q⟩
    · rw [if_neg (by omega), l1]
      by_cases h1 : n = 1
      · subst h1
        rw [if_pos (by decide)]
        exact ⟨.str _, H, I, ⟨_, rfl⟩, q⟩
      · rw [if_neg (by
          rw [Bool.or_eq_true, beq_iff_eq, beq_iff_eq]
          omega), e, rep_sign, Array.empty_append]
        refine ⟨?_, .str _, H, I.tok _, ⟨_, rfl⟩, q⟩
        show (List.replicate n c).toArray.size ≤ sizeLine
        rw [List.size_toArray, List.length_replicate]
        exact Nat.le_trans hn (by decide)

/-! ### tables of the module: whole numbers to values -/
structure KTab (K : PySem.W.Frag) (d : Addr) (kvs : List (Int × V)) : Prop where
  ex : ∃ (es : Array DictEntry) (n : Nat) (vs : List (Int × Tok × Value)), K.lookup d = some ⟨.type "dict", none, .dict es n, #[]⟩ ∧ es.toList = vs.map (fun p => ⟨p.1, .int p.1 p.2.1, p.2.2⟩) ∧
    vs.map (·.1) = kvs.map (·.1) ∧ Vals (kvs.map (·.2)) (vs.map (·.2.2)) ∧ (kvs.map (·.1)).Nodup ∧ (∀ p ∈ kvs, 0 ≤ p.1 ∧ p.1 < 1000) ∧ (d == sysModules) = false
theorem small_hash {i : Int} (h : 0 ≤ i ∧ i < 1000) : hashInt i = i := by
  obtain ⟨n, rfl⟩ := Int.eq_ofNat_of_zero_le h.1
  have hn : n < 1000 := by omega
  have : ∀ m : Fin 1000, hashInt ((m.val : Nat) : Int) = ((m.val : Nat) : Int) := by decide +kernel
  exact this ⟨n, hn⟩
def tabV (kvs : List (Int × V)) (k : Int) : Option V := (kvs.find? fun p => p.1 == k).map (·.2)
theorem isInt_self {P : Program} {w : World} (i : Int) (t : Tok) : (PySem.intKind P w).is i (.int i t) = true := by
  show Value.isInt i (.int i t) = true
  simp [Value.isInt]
theorem pairs_of {P : Program} {w : World} : ∀ vs : List (Int × Tok × Value), Pairs (PySem.intKind P w) (vs.map fun p => (⟨p.1, .int p.1 p.2.1, p.2.2⟩ : DictEntry)) (vs.map fun p => (p.1, p.2.2))
  | [] => .nil
  | p :: r => .cons (isInt_self _ _) rfl (pairs_of r)
theorem ktab_dict {P : Program} {w : World} {K : PySem.W.Frag} {d : Addr} {kvs : List (Int × V)} {h : Heap} (T : KTab K d kvs) (X : K.In h) :
    ∃ ws : List (Int × Value), h.DictOf (PySem.intKind P w) d ws ∧ ws.map (·.1) = kvs.map (·.1) ∧ Vals (kvs.map (·.2)) (ws.map (·.2)) ∧ (d == sysModules) = false := by
  obtain ⟨es, n, vs, hl, he, hk, hv, hn, hb, hd⟩ := T.ex
  refine ⟨vs.map fun p => (p.1, p.2.2), ⟨_, es, n, X _ _ hl, ⟨rfl, rfl, rfl⟩, rfl, fun e hm => ?_, ?_, ?_⟩, ?_, ?_, hd⟩
  · have hm2 : e ∈ es.toList := Array.mem_def.mp hm
    rw [he] at hm2
    obtain ⟨p, hp, rfl⟩ := List.mem_map.mp hm2
    have hp1 : p.1 ∈ kvs.map (·.1) := by
      rw [← hk]
      exact List.mem_map.mpr ⟨p, hp, rfl⟩
    obtain ⟨q, hq, eq⟩ := List.mem_map.mp hp1
    refine ⟨p.1, isInt_self _ _, ?_⟩
    show p.1 = hashInt p.1
    rw [← eq]
    exact (small_hash (hb q hq)).symm
  · rw [he]
    exact pairs_of vs
  · rw [List.map_map]
    show (vs.map (·.1)).Nodup
    rw [hk]
    exact hn
  · rw [List.map_map]
    exact hk
  · rw [List.map_map]
    exact hv
theorem tab_find : ∀ {kvs : List (Int × V)} {ws : List (Int × Value)} (k : Int), ws.map (·.1) = kvs.map (·.1) → Vals (kvs.map (·.2)) (ws.map (·.2)) →
    (∀ v, tabV kvs k = some v → ∃ u, valueAt ws k = some u ∧ RelV v u) ∧ (tabV kvs k = none → valueAt ws k = none)
  | [], [], k, _, _ => ⟨fun v h => (nomatch (show none = some v from h)), fun _ => rfl⟩
  | [], _ :: _, k, h, _ => by simp at h
  | _ :: _, [], k, h, _ => by simp at h
  | a :: r, b :: s, k, h, hv => by
    rw [List.map_cons, List.map_cons] at h
    obtain ⟨h1, h2⟩ := List.cons.inj h
    rw [List.map_cons, List.map_cons] at hv
    cases hv with
    | cons r1 r2 =>
      have ih := tab_find k h2 r2
      unfold tabV valueAt
      rw [List.find?_cons, List.find?_cons]
      by_cases e : a.1 = k
      · have e' : b.1 = k := h1.trans e
        rw [show (a.1 == k) = true from beq_iff_eq.mpr e, show decide (b.1 = k) = true from decide_eq_true e']
        exact ⟨fun v q => ⟨b.2, rfl, by cases q; exact r1⟩, fun q => (by cases q)⟩
      · have e' : ¬ b.1 = k := fun z => e (h1.symm.trans z)
        rw [show (a.1 == k) = false from beq_eq_false_iff_ne.mpr e, show decide (b.1 = k) = false from decide_eq_false e']
        exact ih
/-- D[k] -/
def rKd (K : PySem.W.Frag) : R2 := fun x y H Q => ∃ d kvs k v, x = .ref d ∧ y = .int k ∧ KTab K d kvs ∧ tabV kvs k = some v ∧ Q v H
theorem ix_kd {X : Cx} : IxR X (rKd X.K) := by
  intro value slice pins s σ H x y v u Q I rx ry h hs
  obtain ⟨d, kvs, k, z, rfl, rfl, T, hf, q⟩ := h
  obtain rfl : v = Value.ref d := rx
  obtain ⟨t, rfl⟩ := ry
  obtain ⟨ws, hd, h1, h2, _⟩ := ktab_dict (P := X.prog) (w := X.w) T I.kIn
  obtain ⟨u0, hu, ru⟩ := (tab_find k h1 h2).1 z hf
  exact tail_any hd.mapOf.typeIs slot_dict_getitem.lookup (wpAny_getItem_of (isInt_self _ _) hd.mapOf hu ⟨z, H, I.tok _, ru, q⟩) hs
/-- k in D -/
def rInKd (K : PySem.W.Frag) : R2 := fun x y H Q => ∃ d kvs k, x = .int k ∧ y = .ref d ∧ KTab K d kvs ∧ Q (.bl (tabV kvs k).isSome) H
theorem op_in_kd2 {X : Cx} : OpR X (compareOp .In) (rInKd X.K) := by
  intro pins s σ H x y v u Q I rx ry h
  obtain ⟨d, kvs, k, rfl, rfl, T, q⟩ := h
  obtain ⟨t, rfl⟩ := rx
  obtain rfl : u = Value.ref d := ry
  obtain ⟨ws, hd, h1, h2, hy⟩ := ktab_dict (P := X.prog) (w := X.w) T I.kIn
  refine wpAny_in_of (isInt_self _ _) hy hd.mapOf ?_
  have e : (valueAt ws k).isSome = (tabV kvs k).isSome := by
    cases c : tabV kvs k with
    | none =>
      rw [(tab_find k h1 h2).2 c]
      rfl
    | some z =>
      obtain ⟨u0, hu, _⟩ := (tab_find k h1 h2).1 z c
      rw [hu] <;> rfl
  rw [e]
  exact ⟨.bl _, H, I.tok _, rfl, q⟩
/-- a class made without arguments -/
theorem pe_mk0 {X : Cx} {k j : Nat} {C : Addr} {x : Str} {sp : Sp} {dvs : List V} {p pos : Pos} (c : C8.Mak X.prog X.w X.K X.mg X.base k x C sp dvs) (hr : Room j X.A) (hk : k + 1 ≤ j) (hg : Gl X x) (hdb : (x == ("__debug__" : Str)) = false := by decide) :
    PE X (.Call (.Name x p) [] [] pos) (tMake C sp dvs C8.E0 tNil) := by
  obtain ⟨f, fd, ps, ds, M, F, hm, b, d⟩ := c.ex
  exact pe_make0 M F (hr.mono hk) hg hm b d C8.pass0 hdb
/-! ### a def called out of such a table: D[k](a, b) -/
theorem eval_call_sub (a b : Expr) (p : Pos) (args : List Expr) (kws : List Keyword) (pos : Pos) (env : Env) : eval (.Call (.Subscript a b p) args kws pos) env = (do
    callWith pos (← eval (.Subscript a b p) env) [] (backTo pos (starEach args env)) (backToKw pos (keywordEach kws env))) := by
  first | rfl | simp only [eval]
/-- what is called is told by its value -/
def tCallR (Has : Addr → Sp → Prop) (tf : TE) (t : TA) : TE := fun σ H Q => tf σ H fun v H1 => ∃ f sp, v = .ref f ∧ Has f sp ∧ t σ H1 fun vs H2 => sp vs H2 Q C8.E0
theorem pe_calld {X : Cx} {k j : Nat} {Has : Addr → Sp → Prop} {a b e : Expr} {es : List Expr} {tf : TE} {t : TA} {p pos : Pos} (S : ∀ f sp, Has f sp → C8.CalAt X.prog X.w X.K X.mg X.base k f sp) (hr : Room j X.A) (hk : k ≤ j)
    (hf : PE X (.Subscript a b p) tf) (hargs : PA X (e :: es) t)
    (he : starEach (e :: es) X.env = (false, eval e X.env) :: starEach es X.env := by rfl) (hps : (backTo pos (starEach es X.env)).any (·.1) = false := by rfl) :
    PE X (.Call (.Subscript a b p) (e :: es) [] pos) (tCallR Has tf t) := by
  refine ⟨fun pins s σ H Q I h => ?_⟩
  rw [eval_call_sub]
  refine wpAny_bind (thn (hf.run pins s σ H _ I h) fun u s1 hv => ?_)
  obtain ⟨v, H1, I1, r1, f, sp, rfl, hc, ht⟩ := hv
  obtain rfl : u = Value.ref f := r1
  obtain ⟨fd, ps, F, kp, bb⟩ := (S f sp hc).ex
  refine PySem.W.callWith_K (h₀ := X.base) I1.ok.mod.kin kp (thn (hargs.run pos pins s1 σ _ _ I1 ht) fun us s2 ⟨vs, H2, I2, r, q⟩ => ⟨I2.kIn, ?_⟩) he hps
  exact run_fn F (hr.mono hk) bb .nil C8.pass0 I2 r (by rw [List.append_nil]; exact q)
/-! ### max(xs, default=d) of whole numbers -/
section
variable {prog : Program} {w : World} {A : Around} {R : Result → Shared → Prop} {Itr : Addr} {foot wrt : List Addr} {m : Nat} {P : Nat → Value → Prop} {St : Nat → Heap → Prop} {kws : List (Str × Value)}
theorem mx_next (W : Walks prog w A.in1 Itr foot wrt m P St) (bt : Nat → Nat → Bool) (cmpP : CmpOf prog w A.in1 .Gt P bt) (B : Addr) (hB : B ∉ foot) :
    ∀ (left j : Nat) (s0 : Shared) (best : Value) (ep : Nat), m - (j + 1) = left → j + 1 ≤ m → St (j + 1) s0.heap → P (argBest bt j) best → s0.heap.get? B = some { cls := .type "list", dict := none, data := .seq #[best, best] ep, slots := #[] } →
    (∀ v h' tk, P (argBest bt (m - 1)) v → (∀ b o, b ∉ wrt → b ≠ B → s0.heap.get? b = some o → h'.get? b = some o) → R (.ok (.ret v)) { s0 with heap := h', toks := tk }) → codeAny (model prog w) A (.builtin "max.loop" ⟨[.ref Itr, .none, .ref B], kws⟩) R s0 := by
  have outB : B ∉ wrt := fun z => hB (W.sub _ z)
  have nm : (toString "max" ++ toString ".loop" : String) = "max.loop" := by decide
  intro left
  induction left with
  | zero =>
    intro j s0 best ep e1 e2 st pb at0 fin
    have last : j + 1 = m := by omega
    refine codeAny_builtin (show entryFor table "max.loop" = some Builtin.«max.loop» from F.entry_max_loop) ?_
    rw [Around.under_plainId (show plainId "max.loop" = true from F.plain_max_loop) _]
    show wpAny _ A.in1 (seqItems? (.ref B) >>= _) _ _ s0
    refine wpAny_bind (wpAny_seqItems at0 rfl ?_)
    show wpAny _ A.in1 (tryCatch (pyNext (.ref Itr)) _ >>= _) _ _ s0
    refine wpAny_bind (wpAny_tryCatch (W.done s0 _ _ (last ▸ st) fun h' tk kp => ?_))
    have at1 := kp B _ outB at0
    show wpAny _ A.in1 (updateSeq B (fun _ => #[]) >>= _) _ _ _
    refine wpAny_bind (wpAny_updateSeq at1 rfl (wpAny_bind (wpAny_letGo (wpAny_pure ?_))))
    exact fin best _ tk (by rw [← last]; exact pb) fun b o nb1 nb2 e => (Heap.get?_update_other _ _ (Ne.symm nb2)).trans (kp b o nb1 e)
  | succ left ih =>
    intro j s0 best ep e1 e2 st pb at0 fin
    have more : j + 1 < m := by omega
    refine codeAny_builtin (show entryFor table "max.loop" = some Builtin.«max.loop» from F.entry_max_loop) ?_
    rw [Around.under_plainId (show plainId "max.loop" = true from F.plain_max_loop) _]
    show wpAny _ A.in1 (seqItems? (.ref B) >>= _) _ _ s0
    refine wpAny_bind (wpAny_seqItems at0 rfl ?_)
    show wpAny _ A.in1 (tryCatch (pyNext (.ref Itr)) _ >>= _) _ _ s0
    refine wpAny_bind (wpAny_tryCatch (W.item (j + 1) s0 _ _ more st fun v h' tk pv st' kp => ?_))
    have at1 := kp B _ outB at0
    show wpAny _ A.in1 (tryCatch (holding [v, v] (richCompare .Gt v best >>= _)) _ >>= _) _ _ _
    refine wpAny_bind (wpAny_tryCatch (wpAny_holding (wpAny_bind (cmpP (j + 1) (argBest bt j) v best _ _ _ pv pb ?_))))
    refine wpAny_bind (wpAny_holding (wpAny_truthy_bool (wpAny_bind (wpAny_letGo (wpAny_pure ?_)))))
    cases hb : bt (j + 1) (argBest bt j) with
    | true =>
      simp only [if_true]
      refine wpAny_bind (wpAny_updateSeq at1 rfl (wpAny_bind (wpAny_letGo ?_)))
      rw [nm]
      refine wpAny_pure ⟨plainId_quiet F.plain_max_loop _, ih (j + 1) _ v _ (by omega) more (W.frame _ _ _ st' fun b nb o e => (Heap.get?_update_other _ _ (fun z : B = b => hB (by rw [z]; exact nb))).trans e) (by simp only [argBest, hb, if_true]; exact pv) (Heap.get?_update_self _ at1 rfl)
        fun v' h'' tk'' pv' kp' => fin v' h'' tk'' pv' fun b o nb1 nb2 e => kp' b o nb1 nb2 ((Heap.get?_update_other _ _ (Ne.symm nb2)).trans (kp b o nb1 e))⟩
    | false =>
      simp only [Bool.false_eq_true, if_false]
      refine wpAny_bind (wpAny_letGo ?_)
      rw [nm]
      exact wpAny_pure ⟨plainId_quiet F.plain_max_loop _, ih (j + 1) _ best ep (by omega) more st' (by simp only [argBest, hb, Bool.false_eq_true, if_false]; exact pb) at1 fun v' h'' tk'' pv' kp' => fin v' h'' tk'' pv' fun b o nb1 nb2 e => kp' b o nb1 nb2 (kp b o nb1 e)⟩
theorem mx_first (W : Walks prog w A.in1 Itr foot wrt m P St) (bt : Nat → Nat → Bool) (cmpP : CmpOf prog w A.in1 .Gt P bt) (B : Addr) (hB : B ∉ foot) {s0 : Shared} {ep : Nat} {nd : Str} {d : Value} (st : St 0 s0.heap)
    (at0 : s0.heap.get? B = some { cls := .type "list", dict := none, data := .seq #[] ep, slots := #[] })
    (fin : ∀ v h' tk, (if m = 0 then v = d else P (argBest bt (m - 1)) v) → (∀ b o, b ∉ wrt → b ≠ B → s0.heap.get? b = some o → h'.get? b = some o) → R (.ok (.ret v)) { s0 with heap := h', toks := tk }) :
    codeAny (model prog w) A (.builtin "max.loop" ⟨[.ref Itr, .none, .ref B], [(nd, d)]⟩) R s0 := by
  have outB : B ∉ wrt := fun z => hB (W.sub _ z)
  have nm : (toString "max" ++ toString ".loop" : String) = "max.loop" := by decide
  refine codeAny_builtin (show entryFor table "max.loop" = some Builtin.«max.loop» from F.entry_max_loop) ?_
  rw [Around.under_plainId (show plainId "max.loop" = true from F.plain_max_loop) _]
  show wpAny _ A.in1 (seqItems? (.ref B) >>= _) _ _ s0
  refine wpAny_bind (wpAny_seqItems at0 rfl ?_)
  show wpAny _ A.in1 (tryCatch (pyNext (.ref Itr)) _ >>= _) _ _ s0
  by_cases h0 : m = 0
  · refine wpAny_bind (wpAny_tryCatch (W.done s0 _ _ (h0 ▸ st) fun h' tk kp => ?_))
    show wpAny _ A.in1 (do let _ ← rule _; ret d) _ _ _
    exact wpAny_bind (wpAny_rule (wpAny_pure (fin d h' tk (by rw [if_pos h0]) fun b o nb1 nb2 e => kp b o nb1 e)))
  · refine wpAny_bind (wpAny_tryCatch (W.item 0 s0 _ _ (by omega) st fun v h' tk pv st' kp => ?_))
    have at1 := kp B _ outB at0
    show wpAny _ A.in1 (updateSeq B (fun _ => #[v, v]) >>= _) _ _ _
    refine wpAny_bind (wpAny_updateSeq at1 rfl ?_)
    rw [nm]
    exact wpAny_pure ⟨plainId_quiet F.plain_max_loop _, mx_next W bt cmpP B hB _ 0 _ v _ rfl (by omega) (W.frame _ _ _ st' fun b nb o e => (Heap.get?_update_other _ _ (fun z : B = b => hB (by rw [z]; exact nb))).trans e) pv (Heap.get?_update_self _ at1 rfl)
      fun v' h'' tk'' pv' kp' => fin v' h'' tk'' (by rw [if_neg h0]; exact pv') fun b o nb1 nb2 e => kp' b o nb1 nb2 ((Heap.get?_update_other _ _ (Ne.symm nb2)).trans (kp b o nb1 e))⟩
end
theorem tree_kw {prog : Program} {w : World} {A : Around} {E : Value → Shared → Prop} {s : Shared} {id : String} {b : Builtin} {as : List Value} {kws : List (Str × Value)} {Q : Value → Shared → Prop} (hk : builtinKind id = none) (hp : plainId id = true) (hb : entryFor table id = some b) (ha : argsOk id ⟨as, kws⟩)
    (hc : wpAny (model prog w) A.in1 (b ⟨as, kws⟩) (fun fin s' => ∃ c', fin = .again c' ∧ c'.quiet = true ∧ codeAny (model prog w) A c' (fun r s' => ∃ v, r = .ok (.ret v) ∧ Q v s') s') E s) : wpAny (model prog w) A (call (.builtin id) as kws) Q E s := by
  refine wpAny_call (codeAny_call_builtin hp hb ?_)
  have tail := wpAny_mono hc (Q' := fun fin s' => match fin with
      | .done f => (match (Except.ok f : Result) with | .ok (.ret v) => Q v s' | .ok _ => False | .error e => E e s')
      | .again c' => c'.quiet = true ∧ codeAny (model prog w) A c' (fun r s' => match r with | .ok (.ret v) => Q v s' | .ok _ => False | .error e => E e s') s')
    (fun fin s' z => by
      obtain ⟨c', rfl, h1, h2⟩ := z
      refine ⟨h1, codeAny_mono h2 fun r s2 z2 => ?_⟩
      obtain ⟨v, rfl, h3⟩ := z2
      exact h3) fun _ _ z => z
  simp only [checkBuiltinCall, hk]
  cases sg : Manifest.signature? id with
  | none => exact wpAny_pure tail
  | some sig =>
    have ok : Bind.checkArgs id sig ⟨as, kws⟩ = pure () := by simpa only [argsOk, sg] using ha
    simp only [ok]
    exact wpAny_pure tail
theorem max_args (a d : Value) : argsOk "max" ⟨[a], [(Str.ofString "default", d)]⟩ := by
  unfold argsOk
  kernel_rfl
/-- max(xs, default=d): the greatest; d where there is none -/
def rMaxDef (K : PySem.W.Frag) : List V → List V → Hp → VK → Prop := fun vs zs H Q => ∃ (a : Addr) (ns : List Int) (d : Int), vs = [.ref a] ∧ zs = [.int d] ∧ SqL K H a (ns.map V.int) ∧ ∀ x, (if ns = [] then x = d else x ∈ ns ∧ ∀ y ∈ ns, y ≤ x) → Q (.int x) H
theorem cr_maxDef {X : Cx} (hc : X.calm = true) : CallRK X (.builtin "max") [Str.ofString "default"] (rMaxDef X.K) := by
  intro pins s σ H xs zs us ws Q I r r' h
  obtain ⟨a, ns, d, rfl, rfl, hs, q⟩ := h
  obtain ⟨its, rv, hl, _⟩ := I.list hs
  rw [Vals.ref1 r]
  obtain ⟨t, rfl⟩ : ∃ t, ws = [Value.int d t] := by
    cases r' with
    | cons r1 r2 =>
      cases r2
      obtain ⟨t, rfl⟩ := r1
      exact ⟨t, rfl⟩
  obtain ⟨xs, e⟩ := rv.ints.allInts.items
  have hn : numsOf (intItems xs).toList = ns := by rw [← e]; exact rv.ints.numsOf
  rw [nums_intItems] at hn
  subst hn
  have hl2 := hl.isList
  rw [e] at hl2
  have nm : (toString "max" ++ toString ".loop" : String) = "max.loop" := by decide
  show wpAny _ _ (call (.builtin "max") [.ref a] [(Str.ofString "default", Value.int d t)]) _ _ _
  refine tree_kw F.kind_max F.plain_max F.entry_max (max_args _ _) ?_
  show wpAny _ X.A.in1 (Builtin.Builtins.bindParams "max" ["key", "default"] 0 ⟨[], [(Str.ofString "default", Value.int d t)]⟩ >>= _) _ _ s
  refine wpAny_bind (wpAny_of_eq (show Builtin.Builtins.bindParams "max" ["key", "default"] 0 ⟨[], [(Str.ofString "default", Value.int d t)]⟩ = pure [none, some (Value.int d t)] from by first | rfl | kernel_rfl) ?_)
  refine wpAny_bind (wpAny_pure ?_)
  refine wpAny_bind (iter_intList hl2 fun s2 ee st fp hI => ?_)
  subst ee
  refine wpAny_bind (wpAny_newObj_type ?_)
  have apart : (s.heap.push { cls := .type "list_iterator", data := .fields #[.ref a, .int 0 0] }).objs.size ∉ [s.heap.objs.size, a] := fun hm => Nat.lt_irrefl _ (fp _ hm)
  rw [nm]
  have W := Walks.list (prog := X.prog) (w := X.w) (A := X.A.in1) (I.ok.hd hc) s.heap.objs.size a hI (intItems xs)
  refine wpAny_pure ⟨_, rfl, plainId_quiet F.plain_max_loop _, mx_first W (fun i j => decide (numAt xs i > numAt xs j)) (CmpOf.ints_gt (numAt xs) (fun _ _ => intItems_at)) _ apart (W.frame _ _ _ st fun b _ o e => Heap.get?_push_of_some _ e) (Heap.get?_push_size _ rfl) fun v h' tk hv kp => ⟨v, rfl, ?_⟩⟩
  have keep : ∀ b o, s.heap.get? b = some o → h'.get? b = some o := fun b o e => by
    have e1 : (s.heap.push { cls := .type "list_iterator", data := .fields #[.ref a, .int 0 0] }).get? b = some o := Heap.get?_push_of_some _ e
    refine kp b o (fun z => ?_) (Nat.ne_of_lt (Heap.lt_size e1)) (Heap.get?_push_of_some _ e1)
    have := Heap.lt_size e
    have z' : b = s.heap.objs.size := by simpa using z
    exact absurd this (by
      rw [z']
      exact Nat.lt_irrefl _)
  have I1 : Inv X pins σ H { s with heap := h', toks := tk } := I.kept keep
  by_cases h0 : (intItems xs).size = 0
  · rw [if_pos h0] at hv
    subst hv
    refine ⟨.int d, H, I1, ⟨_, rfl⟩, q d ?_⟩
    rw [if_pos]
    have : xs.size = 0 := by simpa [intItems] using h0
    have e2 : xs.toList = [] := by simpa using this
    rw [e2] <;> rfl
  · rw [if_neg h0] at hv
    obtain ⟨t2, rfl⟩ := intItems_at hv
    have hsz : (intItems xs).size = xs.size := by simp [intItems]
    rw [hsz] at h0
    obtain ⟨g1, g2⟩ := argBest_gt (numAt xs) (xs.size - 1)
    rw [hsz]
    refine ⟨.int _, H, I1, ⟨_, rfl⟩, q _ ?_⟩
    rw [if_neg (fun z => h0 (by simpa using z))]
    refine ⟨?_, fun y hy => ?_⟩
    · rw [numAt_eq]
      exact PySem.getD_mem (by rw [List.length_map, Array.length_toList]; omega)
    · obtain ⟨j, hj, rfl⟩ := mem_getD hy
      rw [List.length_map, Array.length_toList] at hj
      rw [← numAt_eq]
      exact g2 j (by omega)
end Wash
/-! The defs by their places, their names, and what the top has written of them. -/
namespace Wash
open PySem PySem.Spec PyProof.Rows L2

abbrev s_Label_init : Stmt := inClass (tops 7) 0
abbrev N_Label_init : List Str := ["self", "heat", "gentle", "bleach", "dry", "iron"]
theorem sc_Label_init : C8.scC N_Label_init ["self", "heat", "gentle", "bleach", "dry", "iron"] (C8.fnScope s_Label_init) = true := by decide +kernel
abbrev s_digit_of : Stmt := tops 8
abbrev N_digit_of : List Str := ["sign"]
theorem sc_digit_of : C8.scC N_digit_of ["sign"] (C8.fnScope s_digit_of) = true := by decide +kernel
abbrev s_signs_of : Stmt := tops 9
abbrev N_signs_of : List Str := ["label", "heat", "gentle", "bleach", "dry", "iron", "text", "letter"]
theorem sc_signs_of : C8.scC N_signs_of ["label"] (C8.fnScope s_signs_of) = true := by decide +kernel
abbrev s_is_allowed : Stmt := tops 10
abbrev N_is_allowed : List Str := ["label"]
theorem sc_is_allowed : C8.scC N_is_allowed ["label"] (C8.fnScope s_is_allowed) = true := by decide +kernel
abbrev s_read_label : Stmt := tops 11
abbrev N_read_label : List Str := ["signs", "gentle", "heat", "label"]
theorem sc_read_label : C8.scC N_read_label ["signs"] (C8.fnScope s_read_label) = true := by decide +kernel
abbrev s_Thing_init : Stmt := inClass (tops 23) 0
abbrev N_Thing_init : List Str := ["self", "order", "label", "need", "colour", "runs", "weight"]
theorem sc_Thing_init : C8.scC N_Thing_init ["self", "order", "label", "need", "colour", "runs", "weight"] (C8.fnScope s_Thing_init) = true := by decide +kernel
abbrev s_is_in_range : Stmt := tops 24
abbrev N_is_in_range : List Str := ["thing"]
theorem sc_is_in_range : C8.scC N_is_in_range ["thing"] (C8.fnScope s_is_in_range) = true := by decide +kernel
abbrev s_mildest_program : Stmt := tops 25
abbrev N_mildest_program : List Str := ["things", "coolest", "hottest", "heats", "gentle", "bleach", "dry", "heat", "thing"]
theorem sc_mildest_program : C8.scC N_mildest_program ["things"] (C8.fnScope s_mildest_program) = true := by decide +kernel
abbrev s_minutes_of : Stmt := tops 26
abbrev N_minutes_of : List Str := ["program", "heat", "gentle", "bleach", "dry"]
theorem sc_minutes_of : C8.scC N_minutes_of ["program"] (C8.fnScope s_minutes_of) = true := by decide +kernel
abbrev s_colours_agree : Stmt := tops 27
abbrev N_colours_agree : List Str := ["things", "thing"]
theorem sc_colours_agree : C8.scC N_colours_agree ["things"] (C8.fnScope s_colours_agree) = true := by decide +kernel
abbrev s_go_together : Stmt := tops 28
abbrev N_go_together : List Str := ["things"]
theorem sc_go_together : C8.scC N_go_together ["things"] (C8.fnScope s_go_together) = true := by decide +kernel
abbrev s_is_load : Stmt := tops 29
abbrev N_is_load : List Str := ["things", "drum", "thing"]
theorem sc_is_load : C8.scC N_is_load ["things", "drum"] (C8.fnScope s_is_load) = true := by decide +kernel
abbrev s_partners : Stmt := tops 31
abbrev N_partners : List Str := ["thing", "things", "other"]
theorem sc_partners : C8.scC N_partners ["thing", "things"] (C8.fnScope s_partners) = true := by decide +kernel
abbrev s_Sharing_init : Stmt := inClass (tops 32) 0
abbrev N_Sharing_init : List Str := ["self", "things", "drum", "thing"]
theorem sc_Sharing_init : C8.scC N_Sharing_init ["self", "things", "drum"] (C8.fnScope s_Sharing_init) = true := by decide +kernel
abbrev s_takes : Stmt := inClass (tops 32) 1
abbrev N_takes : List Str := ["self", "way", "load", "last", "inside", "place"]
theorem sc_takes : C8.scC N_takes ["self", "way", "load"] (C8.fnScope s_takes) = true := by decide +kernel
abbrev s_finished : Stmt := inClass (tops 32) 2
abbrev N_finished : List Str := ["self", "way", "most", "begun", "load", "whole"]
theorem sc_finished : C8.scC N_finished ["self", "way", "most"] (C8.fnScope s_finished) = true := by decide +kernel
abbrev s_first_way : Stmt := tops 33
abbrev N_first_way : List Str := ["things", "drum", "sharing", "most", "way"]
theorem sc_first_way : C8.scC N_first_way ["things", "drum"] (C8.fnScope s_first_way) = true := by decide +kernel
abbrev s_Machine_init : Stmt := inClass (tops 42) 0
abbrev N_Machine_init : List Str := ["self", "bears"]
theorem sc_Machine_init : C8.scC N_Machine_init ["self", "bears"] (C8.fnScope s_Machine_init) = true := by decide +kernel
abbrev s_is_running : Stmt := inClass (tops 42) 1
abbrev N_is_running : List Str := ["self"]
theorem sc_is_running : C8.scC N_is_running ["self"] (C8.fnScope s_is_running) = true := by decide +kernel
abbrev s_Order_init : Stmt := inClass (tops 43) 0
abbrev N_Order_init : List Str := ["self", "due"]
theorem sc_Order_init : C8.scC N_Order_init ["self", "due"] (C8.fnScope s_Order_init) = true := by decide +kernel
abbrev s_House_init : Stmt := inClass (tops 44) 0
abbrev N_House_init : List Str := ["self"]
theorem sc_House_init : C8.scC N_House_init ["self"] (C8.fnScope s_House_init) = true := by decide +kernel
abbrev s_begin : Stmt := inClass (tops 44) 1
abbrev N_begin : List Str := ["self", "price", "bears", "grams"]
theorem sc_begin : C8.scC N_begin ["self", "price", "bears"] (C8.fnScope s_begin) = true := by decide +kernel
abbrev s_things_of : Stmt := inClass (tops 44) 2
abbrev N_things_of : List Str := ["self", "o", "thing"]
theorem sc_things_of : C8.scC N_things_of ["self", "o"] (C8.fnScope s_things_of) = true := by decide +kernel
abbrev s_set_state : Stmt := inClass (tops 44) 3
abbrev N_set_state : List Str := ["self", "o", "state", "found"]
theorem sc_set_state : C8.scC N_set_state ["self", "o", "state"] (C8.fnScope s_set_state) = true := by decide +kernel
abbrev s_waits : Stmt := inClass (tops 44) 4
abbrev N_waits : List Str := ["self", "thing"]
theorem sc_waits : C8.scC N_waits ["self", "thing"] (C8.fnScope s_waits) = true := by decide +kernel
abbrev s_place_of : Stmt := inClass (tops 44) 5
abbrev N_place_of : List Str := ["self", "thing", "state"]
theorem sc_place_of : C8.scC N_place_of ["self", "thing"] (C8.fnScope s_place_of) = true := by decide +kernel
abbrev s_due_of : Stmt := inClass (tops 44) 6
abbrev N_due_of : List Str := ["self", "i"]
theorem sc_due_of : C8.scC N_due_of ["self", "i"] (C8.fnScope s_due_of) = true := by decide +kernel
abbrev s_waiting_things : Stmt := inClass (tops 44) 7
abbrev N_waiting_things : List Str := ["self", "numbers", "i", "thing"]
theorem sc_waiting_things : C8.scC N_waiting_things ["self"] (C8.fnScope s_waiting_things) = true := by decide +kernel
abbrev s_waiting_for : Stmt := inClass (tops 44) 8
abbrev N_waiting_for : List Str := ["self", "machine", "borne", "i"]
theorem sc_waiting_for : C8.scC N_waiting_for ["self", "machine"] (C8.fnScope s_waiting_for) = true := by decide +kernel
abbrev s_plan_of : Stmt := inClass (tops 44) 9
abbrev N_plan_of : List Str := ["self", "numbers", "machine", "i"]
theorem sc_plan_of : C8.scC N_plan_of ["self", "numbers", "machine"] (C8.fnScope s_plan_of) = true := by decide +kernel
abbrev s_fill : Stmt := inClass (tops 44) 10
abbrev N_fill : List Str := ["self", "machine", "numbers", "program", "until", "i", "thing"]
theorem sc_fill : C8.scC N_fill ["self", "machine", "numbers", "program", "until"] (C8.fnScope s_fill) = true := by decide +kernel
abbrev s_take_out : Stmt := inClass (tops 44) 11
abbrev N_take_out : List Str := ["self", "machine", "place", "numbers", "i", "thing"]
theorem sc_take_out : C8.scC N_take_out ["self", "machine", "place"] (C8.fnScope s_take_out) = true := by decide +kernel
abbrev s_wash_what_is_over : Stmt := inClass (tops 44) 12
abbrev N_wash_what_is_over : List Str := ["self", "washed", "machine"]
theorem sc_wash_what_is_over : C8.scC N_wash_what_is_over ["self"] (C8.fnScope s_wash_what_is_over) = true := by decide +kernel
abbrev s_bill_of : Stmt := inClass (tops 44) 13
abbrev N_bill_of : List Str := ["self", "o", "grams", "thing"]
theorem sc_bill_of : C8.scC N_bill_of ["self", "o"] (C8.fnScope s_bill_of) = true := by decide +kernel
abbrev s_plan : Stmt := tops 60
abbrev N_plan : List Str := ["house", "numbers", "k", "machine", "waiting", "way", "answer", "i", "load"]
theorem sc_plan : C8.scC N_plan ["house", "numbers"] (C8.fnScope s_plan) = true := by decide +kernel
abbrev s_run_refusal : Stmt := tops 61
abbrev N_run_refusal : List Str := ["house", "k", "machine"]
theorem sc_run_refusal : C8.scC N_run_refusal ["house", "k"] (C8.fnScope s_run_refusal) = true := by decide +kernel
abbrev s_run : Stmt := tops 62
abbrev N_run : List Str := ["house", "numbers", "k", "j", "refusal", "machine", "waiting", "way", "chosen", "program", "minutes", "i", "load"]
theorem sc_run : C8.scC N_run ["house", "numbers"] (C8.fnScope s_run) = true := by decide +kernel
abbrev s_tick : Stmt := tops 63
abbrev N_tick : List Str := ["house", "numbers", "t"]
theorem sc_tick : C8.scC N_tick ["house", "numbers"] (C8.fnScope s_tick) = true := by decide +kernel
abbrev s_broken : Stmt := tops 64
abbrev N_broken : List Str := ["house", "numbers", "k", "on", "machine"]
theorem sc_broken : C8.scC N_broken ["house", "numbers"] (C8.fnScope s_broken) = true := by decide +kernel
abbrev s_tell_machine : Stmt := tops 65
abbrev N_tell_machine : List Str := ["house", "numbers", "k", "machine"]
theorem sc_tell_machine : C8.scC N_tell_machine ["house", "numbers"] (C8.fnScope s_tell_machine) = true := by decide +kernel
abbrev s_tell_inside : Stmt := tops 66
abbrev N_tell_inside : List Str := ["house", "numbers", "k", "inside"]
theorem sc_tell_inside : C8.scC N_tell_inside ["house", "numbers"] (C8.fnScope s_tell_inside) = true := by decide +kernel
abbrev s_tell_next : Stmt := tops 67
abbrev N_tell_next : List Str := ["house", "numbers", "moments", "machine"]
theorem sc_tell_next : C8.scC N_tell_next ["house", "numbers"] (C8.fnScope s_tell_next) = true := by decide +kernel
abbrev s_is_machine_call : Stmt := tops 69
abbrev N_is_machine_call : List Str := ["call"]
theorem sc_is_machine_call : C8.scC N_is_machine_call ["call"] (C8.fnScope s_is_machine_call) = true := by decide +kernel
abbrev s_answer_machine_call : Stmt := tops 70
abbrev N_answer_machine_call : List Str := ["house", "call", "numbers"]
theorem sc_answer_machine_call : C8.scC N_answer_machine_call ["house", "call", "numbers"] (C8.fnScope s_answer_machine_call) = true := by decide +kernel
abbrev s_are_drums : Stmt := tops 78
abbrev N_are_drums : List Str := ["bears", "grams"]
theorem sc_are_drums : C8.scC N_are_drums ["bears"] (C8.fnScope s_are_drums) = true := by decide +kernel
abbrev s_start : Stmt := tops 79
abbrev N_start : List Str := ["house", "numbers", "price", "bears"]
theorem sc_start : C8.scC N_start ["house", "numbers"] (C8.fnScope s_start) = true := by decide +kernel
abbrev s_order : Stmt := tops 80
abbrev N_order : List Str := ["house", "numbers", "due"]
theorem sc_order : C8.scC N_order ["house", "numbers"] (C8.fnScope s_order) = true := by decide +kernel
abbrev s_state_refusal : Stmt := tops 81
abbrev N_state_refusal : List Str := ["house", "o", "states"]
theorem sc_state_refusal : C8.scC N_state_refusal ["house", "o", "states"] (C8.fnScope s_state_refusal) = true := by decide +kernel
abbrev s_thing_refusal : Stmt := tops 82
abbrev N_thing_refusal : List Str := ["house", "thing", "machine"]
theorem sc_thing_refusal : C8.scC N_thing_refusal ["house", "thing"] (C8.fnScope s_thing_refusal) = true := by decide +kernel
abbrev s_add : Stmt := tops 83
abbrev N_add : List Str := ["house", "numbers", "o", "need", "colour", "runs", "weight", "signs", "refusal", "thing"]
theorem sc_add : C8.scC N_add ["house", "numbers"] (C8.fnScope s_add) = true := by decide +kernel
abbrev s_close : Stmt := tops 84
abbrev N_close : List Str := ["house", "numbers", "o", "refusal"]
theorem sc_close : C8.scC N_close ["house", "numbers"] (C8.fnScope s_close) = true := by decide +kernel
abbrev s_pack : Stmt := tops 85
abbrev N_pack : List Str := ["house", "numbers", "o", "refusal", "things", "thing"]
theorem sc_pack : C8.scC N_pack ["house", "numbers"] (C8.fnScope s_pack) = true := by decide +kernel
abbrev s_hand : Stmt := tops 86
abbrev N_hand : List Str := ["house", "numbers", "o", "refusal", "paid"]
theorem sc_hand : C8.scC N_hand ["house", "numbers"] (C8.fnScope s_hand) = true := by decide +kernel
abbrev s_cancel : Stmt := tops 87
abbrev N_cancel : List Str := ["house", "numbers", "o", "refusal", "things", "thing"]
theorem sc_cancel : C8.scC N_cancel ["house", "numbers"] (C8.fnScope s_cancel) = true := by decide +kernel
abbrev s_bill : Stmt := tops 88
abbrev N_bill : List Str := ["house", "numbers", "o"]
theorem sc_bill : C8.scC N_bill ["house", "numbers"] (C8.fnScope s_bill) = true := by decide +kernel
abbrev s_tell_state : Stmt := tops 89
abbrev N_tell_state : List Str := ["house", "numbers", "o", "found", "places", "thing"]
theorem sc_tell_state : C8.scC N_tell_state ["house", "numbers"] (C8.fnScope s_tell_state) = true := by decide +kernel
abbrev s_is_late : Stmt := tops 90
abbrev N_is_late : List Str := ["found", "now"]
theorem sc_is_late : C8.scC N_is_late ["found", "now"] (C8.fnScope s_is_late) = true := by decide +kernel
abbrev s_tell_late : Stmt := tops 91
abbrev N_tell_late : List Str := ["house", "numbers", "late", "o", "found"]
theorem sc_tell_late : C8.scC N_tell_late ["house", "numbers"] (C8.fnScope s_tell_late) = true := by decide +kernel
abbrev s_tell_till : Stmt := tops 92
abbrev N_tell_till : List Str := ["house", "numbers"]
theorem sc_tell_till : C8.scC N_tell_till ["house", "numbers"] (C8.fnScope s_tell_till) = true := by decide +kernel
abbrev s_tell_all : Stmt := tops 93
abbrev N_tell_all : List Str := ["house", "numbers"]
theorem sc_tell_all : C8.scC N_tell_all ["house", "numbers"] (C8.fnScope s_tell_all) = true := by decide +kernel
abbrev s_is_order_call : Stmt := tops 95
abbrev N_is_order_call : List Str := ["call"]
theorem sc_is_order_call : C8.scC N_is_order_call ["call"] (C8.fnScope s_is_order_call) = true := by decide +kernel
abbrev s_answer_order_call : Stmt := tops 96
abbrev N_answer_order_call : List Str := ["house", "call", "numbers"]
theorem sc_answer_order_call : C8.scC N_answer_order_call ["house", "call", "numbers"] (C8.fnScope s_answer_order_call) = true := by decide +kernel
abbrev s_tell_where : Stmt := tops 99
abbrev N_tell_where : List Str := ["house", "numbers", "i", "thing"]
theorem sc_tell_where : C8.scC N_tell_where ["house", "numbers"] (C8.fnScope s_tell_where) = true := by decide +kernel
abbrev s_tell_label : Stmt := tops 100
abbrev N_tell_label : List Str := ["house", "numbers", "i", "signs"]
theorem sc_tell_label : C8.scC N_tell_label ["house", "numbers"] (C8.fnScope s_tell_label) = true := by decide +kernel
abbrev s_tell_thing : Stmt := tops 101
abbrev N_tell_thing : List Str := ["house", "numbers", "i", "thing"]
theorem sc_tell_thing : C8.scC N_tell_thing ["house", "numbers"] (C8.fnScope s_tell_thing) = true := by decide +kernel
abbrev s_are_apart : Stmt := tops 102
abbrev N_are_apart : List Str := ["house", "i", "j"]
theorem sc_are_apart : C8.scC N_are_apart ["house", "i", "j"] (C8.fnScope s_are_apart) = true := by decide +kernel
abbrev s_tell_apart : Stmt := tops 103
abbrev N_tell_apart : List Str := ["house", "numbers", "chosen", "place", "i", "apart", "j"]
theorem sc_tell_apart : C8.scC N_tell_apart ["house", "numbers"] (C8.fnScope s_tell_apart) = true := by decide +kernel
abbrev s_tell_waiting : Stmt := tops 104
abbrev N_tell_waiting : List Str := ["house", "numbers", "waiting"]
theorem sc_tell_waiting : C8.scC N_tell_waiting ["house", "numbers"] (C8.fnScope s_tell_waiting) = true := by decide +kernel
abbrev s_answer_thing_call : Stmt := tops 106
abbrev N_answer_thing_call : List Str := ["house", "call", "numbers"]
theorem sc_answer_thing_call : C8.scC N_answer_thing_call ["house", "call", "numbers"] (C8.fnScope s_answer_thing_call) = true := by decide +kernel
abbrev s_read_call : Stmt := tops 110
abbrev N_read_call : List Str := ["calls", "begin", "call", "end", "numbers", "row_end"]
theorem sc_read_call : C8.scC N_read_call ["calls", "begin"] (C8.fnScope s_read_call) = true := by decide +kernel
abbrev s_answer : Stmt := tops 111
abbrev N_answer : List Str := ["house", "call", "numbers"]
theorem sc_answer : C8.scC N_answer ["house", "call", "numbers"] (C8.fnScope s_answer) = true := by decide +kernel
abbrev s_answers : Stmt := tops 112
abbrev N_answers : List Str := ["calls", "house", "told", "begin", "numbers", "end", "found"]
theorem sc_answers : C8.scC N_answers ["calls"] (C8.fnScope s_answers) = true := by decide +kernel

/-! ### a def as it stands -/
structure DefAt (K : PySem.W.Frag) (x qual : Str) (st : Stmt) (f : Addr) : Prop where
  ex : ∃ (oc : Value) (od : Option Addr) (kV doc pm : Value) (an : Option Addr) (cdv ct : Value) (osl : Array (Option Value)),
    K.lookup f = some ⟨oc, od, .func (PySem.W.fnOf x qual (C8.fnArgs st) (C8.fnBody st) (C8.fnScope st) .none kV doc pm an cdv ct), osl⟩ ∧ PySem.W.codeIn K cdv qual = true
  kp : PySem.W.keepIn K (.ref f) = true
abbrev cLabel : Addr := 32
abbrev cThing : Addr := 81
abbrev cSharing : Addr := 153
abbrev cMachine : Addr := 188
abbrev cOrder : Addr := 209
abbrev cHouse : Addr := 309

structure Txt (K : PySem.W.Frag) (mg : Str → Option Value) : Prop where
  c_Label : Cls K cLabel
  n_Label_heat : NoAttr K cLabel "heat"
  n_Label_gentle : NoAttr K cLabel "gentle"
  n_Label_bleach : NoAttr K cLabel "bleach"
  n_Label_dry : NoAttr K cLabel "dry"
  n_Label_iron : NoAttr K cLabel "iron"
  c_Thing : Cls K cThing
  n_Thing_order : NoAttr K cThing "order"
  n_Thing_label : NoAttr K cThing "label"
  n_Thing_need : NoAttr K cThing "need"
  n_Thing_colour : NoAttr K cThing "colour"
  n_Thing_runs : NoAttr K cThing "runs"
  n_Thing_weight : NoAttr K cThing "weight"
  n_Thing_place : NoAttr K cThing "place"
  c_Sharing : Cls K cSharing
  n_Sharing_drum : NoAttr K cSharing "drum"
  n_Sharing_weights : NoAttr K cSharing "weights"
  n_Sharing_matches : NoAttr K cSharing "matches"
  c_Machine : Cls K cMachine
  n_Machine_bears : NoAttr K cMachine "bears"
  n_Machine_broken : NoAttr K cMachine "broken"
  n_Machine_inside : NoAttr K cMachine "inside"
  n_Machine_program : NoAttr K cMachine "program"
  n_Machine_until : NoAttr K cMachine "until"
  c_Order : Cls K cOrder
  n_Order_due : NoAttr K cOrder "due"
  n_Order_state : NoAttr K cOrder "state"
  c_House : Cls K cHouse
  n_House_price : NoAttr K cHouse "price"
  n_House_till : NoAttr K cHouse "till"
  n_House_now : NoAttr K cHouse "now"
  n_House_machines : NoAttr K cHouse "machines"
  n_House_orders : NoAttr K cHouse "orders"
  n_House_things : NoAttr K cHouse "things"
  g_ALREADY : ∃ u, mg "ALREADY" = some u ∧ RelV (.int (-17)) u
  g_CALLED_OFF : ∃ u, mg "CALLED_OFF" = some u ∧ RelV (.int (4)) u
  g_CALLS_WITH_ROW : ∃ u, mg "CALLS_WITH_ROW" = some u ∧ RelV (.ref 545) u
  g_CLOSED : ∃ u, mg "CLOSED" = some u ∧ RelV (.int (1)) u
  g_DRYING_MINUTES : ∃ u, mg "DRYING_MINUTES" = some u ∧ RelV (.int (10)) u
  g_FULL : ∃ u, mg "FULL" = some u ∧ RelV (.int (-28)) u
  g_GIVEN_OUT : ∃ u, mg "GIVEN_OUT" = some u ∧ RelV (.int (3)) u
  g_GONE : ∃ u, mg "GONE" = some u ∧ RelV (.int (4)) u
  g_GREATEST_DRUM : ∃ u, mg "GREATEST_DRUM" = some u ∧ RelV (.int (20000)) u
  g_IN_MACHINE : ∃ u, mg "IN_MACHINE" = some u ∧ RelV (.int (1)) u
  g_IN_PARCEL : ∃ u, mg "IN_PARCEL" = some u ∧ RelV (.int (3)) u
  g_IS_BROKEN : ∃ u, mg "IS_BROKEN" = some u ∧ RelV (.int (-4)) u
  g_IS_EMPTY : ∃ u, mg "IS_EMPTY" = some u ∧ RelV (.int (0)) u
  g_IS_OUT : ∃ u, mg "IS_OUT" = some u ∧ RelV (.int (2)) u
  g_IS_RUNNING : ∃ u, mg "IS_RUNNING" = some u ∧ RelV (.int (1)) u
  g_LABEL_HEATS : ∃ u, mg "LABEL_HEATS" = some u ∧ RelV (.ref 15) u
  g_LAST_MINUTE : ∃ u, mg "LAST_MINUTE" = some u ∧ RelV (.int (1000000)) u
  g_LEAST_DRUM : ∃ u, mg "LEAST_DRUM" = some u ∧ RelV (.int (1000)) u
  g_MACHINE_CALLS : ∃ u, mg "MACHINE_CALLS" = some u ∧ RelV (.ref 366) u
  g_MOST_APART : ∃ u, mg "MOST_APART" = some u ∧ RelV (.int (20)) u
  g_MOST_BLEACH : ∃ u, mg "MOST_BLEACH" = some u ∧ RelV (.int (2)) u
  g_MOST_COLOUR : ∃ u, mg "MOST_COLOUR" = some u ∧ RelV (.int (9)) u
  g_MOST_DRY : ∃ u, mg "MOST_DRY" = some u ∧ RelV (.int (2)) u
  g_MOST_GENTLE : ∃ u, mg "MOST_GENTLE" = some u ∧ RelV (.int (2)) u
  g_MOST_IRON : ∃ u, mg "MOST_IRON" = some u ∧ RelV (.int (3)) u
  g_MOST_MACHINES : ∃ u, mg "MOST_MACHINES" = some u ∧ RelV (.int (4)) u
  g_MOST_ORDERS : ∃ u, mg "MOST_ORDERS" = some u ∧ RelV (.int (60)) u
  g_MOST_PRICE : ∃ u, mg "MOST_PRICE" = some u ∧ RelV (.int (1000)) u
  g_MOST_THINGS : ∃ u, mg "MOST_THINGS" = some u ∧ RelV (.int (150)) u
  g_MOST_WEIGHT : ∃ u, mg "MOST_WEIGHT" = some u ∧ RelV (.int (20000)) u
  g_NONE_APART : ∃ u, mg "NONE_APART" = some u ∧ RelV (.int (-33)) u
  g_NOTHING_THERE : ∃ u, mg "NOTHING_THERE" = some u ∧ RelV (.int (-6)) u
  g_NOT_ALL_WASHED : ∃ u, mg "NOT_ALL_WASHED" = some u ∧ RelV (.int (-61)) u
  g_NOT_THERE : ∃ u, mg "NOT_THERE" = some u ∧ RelV (.int (-2)) u
  g_NO_LABEL : ∃ u, mg "NO_LABEL" = some u ∧ RelV (.int (-71)) u
  g_NO_LOAD : ∃ u, mg "NO_LOAD" = some u ∧ RelV (.int (-33)) u
  g_ORDER_CALLS : ∃ u, mg "ORDER_CALLS" = some u ∧ RelV (.ref 481) u
  g_OUT_OF_RANGE : ∃ u, mg "OUT_OF_RANGE" = some u ∧ RelV (.int (-22)) u
  g_PACKED : ∃ u, mg "PACKED" = some u ∧ RelV (.int (2)) u
  g_PLAIN_NUMBERS : ∃ u, mg "PLAIN_NUMBERS" = some u ∧ RelV (.ref 544) u
  g_PROGRAM_HEATS : ∃ u, mg "PROGRAM_HEATS" = some u ∧ RelV (.ref 63) u
  g_SIGNS_OF_ALL : ∃ u, mg "SIGNS_OF_ALL" = some u ∧ RelV (.int (9)) u
  g_STILL_OPEN : ∃ u, mg "STILL_OPEN" = some u ∧ RelV (.int (0)) u
  g_THINGS_IN_PLAN : ∃ u, mg "THINGS_IN_PLAN" = some u ∧ RelV (.int (8)) u
  g_THING_CALLS : ∃ u, mg "THING_CALLS" = some u ∧ RelV (.ref 536) u
  g_UNWASHED : ∃ u, mg "UNWASHED" = some u ∧ RelV (.int (0)) u
  g_WASHED : ∃ u, mg "WASHED" = some u ∧ RelV (.int (2)) u
  g_WASHING_MINUTES : ∃ u, mg "WASHING_MINUTES" = some u ∧ RelV (.ref 64) u
  g_WRONG_STATE : ∃ u, mg "WRONG_STATE" = some u ∧ RelV (.int (-16)) u
  b_all : mg "all" = none
  b_any : mg "any" = none
  b_enumerate : mg "enumerate" = none
  b_len : mg "len" = none
  b_list : mg "list" = none
  b_max : mg "max" = none
  b_min : mg "min" = none
  b_ord : mg "ord" = none
  b_range : mg "range" = none
  b_sorted : mg "sorted" = none
  b_str : mg "str" = none
  b_sum : mg "sum" = none
  b_zip : mg "zip" = none
  t_LABEL_HEATS : ∀ H, SqT K H 15 (([0, 30, 40, 60, 95] : List Int).map V.int)
  t_PROGRAM_HEATS : ∀ H, SqT K H 63 (([30, 40, 60, 95] : List Int).map V.int)
  t_PLAIN_NUMBERS : ∀ H, SqT K H 544 (([1, 1, 5, 1, 1, 2, 1, 2, 1, 1, 1, 1, 1, 1, 1, 0, 0, 1, 1, 1, 0, 0, 0, 0] : List Int).map V.int)
  t_CALLS_WITH_ROW : ∀ H, SqT K H 545 (([0, 2, 15] : List Int).map V.int)
  k_WASHING_MINUTES : KTab K 64 [(30, .int 45), (40, .int 60), (60, .int 75), (95, .int 90)]
  k_MACHINE_CALLS : KTab K 366 [(4, .ref 320), (5, .ref 332), (6, .ref 339), (7, .ref 346), (17, .ref 353), (18, .ref 360), (21, .ref 365)]
  k_ORDER_CALLS : KTab K 481 [(0, .ref 392), (1, .ref 399), (2, .ref 418), (3, .ref 425), (8, .ref 430), (9, .ref 437), (10, .ref 442), (11, .ref 449), (19, .ref 454), (20, .ref 466), (22, .ref 473), (23, .ref 480)]
  k_THING_CALLS : KTab K 536 [(12, .ref 502), (13, .ref 509), (14, .ref 516), (15, .ref 528), (16, .ref 535)]
  k_Label : ∃ f, Mk K cLabel f ∧ DefAt K "__init__" "Label.__init__" s_Label_init f
  m_Label : mg "Label" = some (.ref cLabel)
  d_digit_of : DefAt K "digit_of" "digit_of" s_digit_of 43
  m_digit_of : mg "digit_of" = some (.ref 43)
  d_signs_of : DefAt K "signs_of" "signs_of" s_signs_of 48
  m_signs_of : mg "signs_of" = some (.ref 48)
  d_is_allowed : DefAt K "is_allowed" "is_allowed" s_is_allowed 55
  m_is_allowed : mg "is_allowed" = some (.ref 55)
  d_read_label : DefAt K "read_label" "read_label" s_read_label 62
  m_read_label : mg "read_label" = some (.ref 62)
  k_Thing : ∃ f, Mk K cThing f ∧ DefAt K "__init__" "Thing.__init__" s_Thing_init f
  m_Thing : mg "Thing" = some (.ref cThing)
  d_is_in_range : DefAt K "is_in_range" "is_in_range" s_is_in_range 92
  m_is_in_range : mg "is_in_range" = some (.ref 92)
  d_mildest_program : DefAt K "mildest_program" "mildest_program" s_mildest_program 97
  m_mildest_program : mg "mildest_program" = some (.ref 97)
  d_minutes_of : DefAt K "minutes_of" "minutes_of" s_minutes_of 104
  m_minutes_of : mg "minutes_of" = some (.ref 104)
  d_colours_agree : DefAt K "colours_agree" "colours_agree" s_colours_agree 109
  m_colours_agree : mg "colours_agree" = some (.ref 109)
  d_go_together : DefAt K "go_together" "go_together" s_go_together 116
  m_go_together : mg "go_together" = some (.ref 116)
  d_is_load : DefAt K "is_load" "is_load" s_is_load 121
  m_is_load : mg "is_load" = some (.ref 121)
  d_partners : DefAt K "partners" "partners" s_partners 126
  m_partners : mg "partners" = some (.ref 126)
  k_Sharing : ∃ f, Mk K cSharing f ∧ DefAt K "__init__" "Sharing.__init__" s_Sharing_init f
  m_Sharing : mg "Sharing" = some (.ref cSharing)
  d_takes : ∃ f, Meth K cSharing "takes" f ∧ DefAt K "takes" "Sharing.takes" s_takes f
  d_finished : ∃ f, Meth K cSharing "finished" f ∧ DefAt K "finished" "Sharing.finished" s_finished f
  d_first_way : DefAt K "first_way" "first_way" s_first_way 164
  m_first_way : mg "first_way" = some (.ref 164)
  k_Machine : ∃ f, Mk K cMachine f ∧ DefAt K "__init__" "Machine.__init__" s_Machine_init f
  m_Machine : mg "Machine" = some (.ref cMachine)
  d_is_running : ∃ f, Meth K cMachine "is_running" f ∧ DefAt K "is_running" "Machine.is_running" s_is_running f
  k_Order : ∃ f, Mk K cOrder f ∧ DefAt K "__init__" "Order.__init__" s_Order_init f
  m_Order : mg "Order" = some (.ref cOrder)
  k_House : ∃ f, Mk K cHouse f ∧ DefAt K "__init__" "House.__init__" s_House_init f
  m_House : mg "House" = some (.ref cHouse)
  d_begin : ∃ f, Meth K cHouse "begin" f ∧ DefAt K "begin" "House.begin" s_begin f
  d_things_of : ∃ f, Meth K cHouse "things_of" f ∧ DefAt K "things_of" "House.things_of" s_things_of f
  d_set_state : ∃ f, Meth K cHouse "set_state" f ∧ DefAt K "set_state" "House.set_state" s_set_state f
  d_waits : ∃ f, Meth K cHouse "waits" f ∧ DefAt K "waits" "House.waits" s_waits f
  d_place_of : ∃ f, Meth K cHouse "place_of" f ∧ DefAt K "place_of" "House.place_of" s_place_of f
  d_due_of : ∃ f, Meth K cHouse "due_of" f ∧ DefAt K "due_of" "House.due_of" s_due_of f
  d_waiting_things : ∃ f, Meth K cHouse "waiting_things" f ∧ DefAt K "waiting_things" "House.waiting_things" s_waiting_things f
  d_waiting_for : ∃ f, Meth K cHouse "waiting_for" f ∧ DefAt K "waiting_for" "House.waiting_for" s_waiting_for f
  d_plan_of : ∃ f, Meth K cHouse "plan_of" f ∧ DefAt K "plan_of" "House.plan_of" s_plan_of f
  d_fill : ∃ f, Meth K cHouse "fill" f ∧ DefAt K "fill" "House.fill" s_fill f
  d_take_out : ∃ f, Meth K cHouse "take_out" f ∧ DefAt K "take_out" "House.take_out" s_take_out f
  d_wash_what_is_over : ∃ f, Meth K cHouse "wash_what_is_over" f ∧ DefAt K "wash_what_is_over" "House.wash_what_is_over" s_wash_what_is_over f
  d_bill_of : ∃ f, Meth K cHouse "bill_of" f ∧ DefAt K "bill_of" "House.bill_of" s_bill_of f
  d_plan : DefAt K "plan" "plan" s_plan 320
  m_plan : mg "plan" = some (.ref 320)
  d_run_refusal : DefAt K "run_refusal" "run_refusal" s_run_refusal 327
  m_run_refusal : mg "run_refusal" = some (.ref 327)
  d_run : DefAt K "run" "run" s_run 332
  m_run : mg "run" = some (.ref 332)
  d_tick : DefAt K "tick" "tick" s_tick 339
  m_tick : mg "tick" = some (.ref 339)
  d_broken : DefAt K "broken" "broken" s_broken 346
  m_broken : mg "broken" = some (.ref 346)
  d_tell_machine : DefAt K "tell_machine" "tell_machine" s_tell_machine 353
  m_tell_machine : mg "tell_machine" = some (.ref 353)
  d_tell_inside : DefAt K "tell_inside" "tell_inside" s_tell_inside 360
  m_tell_inside : mg "tell_inside" = some (.ref 360)
  d_tell_next : DefAt K "tell_next" "tell_next" s_tell_next 365
  m_tell_next : mg "tell_next" = some (.ref 365)
  d_is_machine_call : DefAt K "is_machine_call" "is_machine_call" s_is_machine_call 373
  m_is_machine_call : mg "is_machine_call" = some (.ref 373)
  d_answer_machine_call : DefAt K "answer_machine_call" "answer_machine_call" s_answer_machine_call 380
  m_answer_machine_call : mg "answer_machine_call" = some (.ref 380)
  d_are_drums : DefAt K "are_drums" "are_drums" s_are_drums 385
  m_are_drums : mg "are_drums" = some (.ref 385)
  d_start : DefAt K "start" "start" s_start 392
  m_start : mg "start" = some (.ref 392)
  d_order : DefAt K "order" "order" s_order 399
  m_order : mg "order" = some (.ref 399)
  d_state_refusal : DefAt K "state_refusal" "state_refusal" s_state_refusal 406
  m_state_refusal : mg "state_refusal" = some (.ref 406)
  d_thing_refusal : DefAt K "thing_refusal" "thing_refusal" s_thing_refusal 411
  m_thing_refusal : mg "thing_refusal" = some (.ref 411)
  d_add : DefAt K "add" "add" s_add 418
  m_add : mg "add" = some (.ref 418)
  d_close : DefAt K "close" "close" s_close 425
  m_close : mg "close" = some (.ref 425)
  d_pack : DefAt K "pack" "pack" s_pack 430
  m_pack : mg "pack" = some (.ref 430)
  d_hand : DefAt K "hand" "hand" s_hand 437
  m_hand : mg "hand" = some (.ref 437)
  d_cancel : DefAt K "cancel" "cancel" s_cancel 442
  m_cancel : mg "cancel" = some (.ref 442)
  d_bill : DefAt K "bill" "bill" s_bill 449
  m_bill : mg "bill" = some (.ref 449)
  d_tell_state : DefAt K "tell_state" "tell_state" s_tell_state 454
  m_tell_state : mg "tell_state" = some (.ref 454)
  d_is_late : DefAt K "is_late" "is_late" s_is_late 461
  m_is_late : mg "is_late" = some (.ref 461)
  d_tell_late : DefAt K "tell_late" "tell_late" s_tell_late 466
  m_tell_late : mg "tell_late" = some (.ref 466)
  d_tell_till : DefAt K "tell_till" "tell_till" s_tell_till 473
  m_tell_till : mg "tell_till" = some (.ref 473)
  d_tell_all : DefAt K "tell_all" "tell_all" s_tell_all 480
  m_tell_all : mg "tell_all" = some (.ref 480)
  d_is_order_call : DefAt K "is_order_call" "is_order_call" s_is_order_call 488
  m_is_order_call : mg "is_order_call" = some (.ref 488)
  d_answer_order_call : DefAt K "answer_order_call" "answer_order_call" s_answer_order_call 495
  m_answer_order_call : mg "answer_order_call" = some (.ref 495)
  d_tell_where : DefAt K "tell_where" "tell_where" s_tell_where 502
  m_tell_where : mg "tell_where" = some (.ref 502)
  d_tell_label : DefAt K "tell_label" "tell_label" s_tell_label 509
  m_tell_label : mg "tell_label" = some (.ref 509)
  d_tell_thing : DefAt K "tell_thing" "tell_thing" s_tell_thing 516
  m_tell_thing : mg "tell_thing" = some (.ref 516)
  d_are_apart : DefAt K "are_apart" "are_apart" s_are_apart 523
  m_are_apart : mg "are_apart" = some (.ref 523)
  d_tell_apart : DefAt K "tell_apart" "tell_apart" s_tell_apart 528
  m_tell_apart : mg "tell_apart" = some (.ref 528)
  d_tell_waiting : DefAt K "tell_waiting" "tell_waiting" s_tell_waiting 535
  m_tell_waiting : mg "tell_waiting" = some (.ref 535)
  d_answer_thing_call : DefAt K "answer_thing_call" "answer_thing_call" s_answer_thing_call 543
  m_answer_thing_call : mg "answer_thing_call" = some (.ref 543)
  d_read_call : DefAt K "read_call" "read_call" s_read_call 552
  m_read_call : mg "read_call" = some (.ref 552)
  d_answer : DefAt K "answer" "answer" s_answer 559
  m_answer : mg "answer" = some (.ref 559)
  d_answers : DefAt K "answers" "answers" s_answers 566
  m_answers : mg "answers" = some (.ref 566)

section
variable {P : Program} {w : World} {K : PySem.W.Frag} {mg : Str → Option Value} {base : Heap}
theorem DefAt.mk2 {x qual : Str} {st : Stmt} {f : Addr} (d : DefAt K x qual st f) : ∃ fd : FuncData, C8.Fun K x qual st f fd ∧ fd.defaults = .none := by
  obtain ⟨oc, od, kV, doc, pm, an, cdv, ct, osl, hl, hc⟩ := d.ex
  exact ⟨_, ⟨oc, od, .none, kV, doc, pm, an, cdv, ct, osl, rfl, hl, hc⟩, rfl⟩
/-- how the arguments meet the parameters -/
def Arity (x qual : Str) (st : Stmt) (ps : List Str) : Prop := ∀ (kV doc pm : Value) (an : Option Addr) (cdv ct : Value) (us : List Value), us.length = ps.length → bindArgs (PySem.W.fnOf x qual (C8.fnArgs st) (C8.fnBody st) (C8.fnScope st) .none kV doc pm an cdv ct) ⟨us, []⟩ = pure (ps.zip us)
theorem mkCal {x : Str} {st : Stmt} {f : Addr} {N ps : List Str} {k : Nat} {sp : Sp} (d : DefAt K x x st f) (hm : mg x = some (.ref f)) (ar : Arity x x st ps) (S : C8.scC N ps (C8.fnScope st) = true) (len : ∀ vs H Q E, sp vs H Q E → vs.length = ps.length)
    (hbody : ∀ (cdv : Value) (A : Around) (outer : List Env) (s : Shared) (H : Hp) (vs : List V) (Q : VK) (E : XK), Room k (A.deeper (envOfC x (C8.fnScope st) s.heap.objs.size f cdv)) → sp vs H Q E →
      ∃ t, PSs (cxOf C8.CX0 P w K mg base N x (C8.fnScope st) f cdv A outer s H E).nox (C8.fnBody st) t ∧ t { nx := fun _ H' => Q .non H', rt := Q } (start N vs) H) : C8.Cal P w K mg base (k + 1) x sp [] ∧ C8.CalAt P w K mg base (k + 1) f sp := by
  obtain ⟨fd, F, df⟩ := d.mk2
  have ok := C8.fn0 F (C8.fnScope_by S) len hbody
  exact ⟨⟨f, fd, ps, [], ok, hm, d.kp, F.binds df ar, .nil⟩, ⟨fd, ps, ok, d.kp, F.binds df ar⟩⟩
theorem mkCal1 {x : Str} {st : Stmt} {f : Addr} {N ps : List Str} {k : Nat} {sp : Sp} (d : DefAt K x x st f) (hm : mg x = some (.ref f)) (ar : Arity x x st ps) (S : C8.scC N ps (C8.fnScope st) = true) (len : ∀ vs H Q E, sp vs H Q E → vs.length = ps.length)
    (hbody : ∀ (cdv : Value) (A : Around) (outer : List Env) (s : Shared) (H : Hp) (vs : List V) (Q : VK) (E : XK), Room k (A.deeper (envOfC x (C8.fnScope st) s.heap.objs.size f cdv)) → sp vs H Q E →
      ∃ t, PSs (cxOf C8.CX0 P w K mg base N x (C8.fnScope st) f cdv A outer s H E).nox (C8.fnBody st) t ∧ t { nx := fun _ H' => Q .non H', rt := Q } (start N vs) H) : C8.Cal P w K mg base (k + 1) x sp [] := (mkCal d hm ar S len hbody).1
theorem mkMet {x qual : Str} {st : Stmt} {C : Addr} {N ps : List Str} {k : Nat} {sp : Sp} (c : Cls K C) (d : ∃ f, Meth K C x f ∧ DefAt K x qual st f) (ar : Arity x qual st ps) (S : C8.scC N ps (C8.fnScope st) = true) (len : ∀ vs H Q E, sp vs H Q E → vs.length = ps.length)
    (hbody : ∀ (f : Addr) (cdv : Value) (A : Around) (outer : List Env) (s : Shared) (H : Hp) (vs : List V) (Q : VK) (E : XK), Room k (A.deeper (envOfC qual (C8.fnScope st) s.heap.objs.size f cdv)) → sp vs H Q E →
      ∃ t, PSs (cxOf C8.CX0 P w K mg base N qual (C8.fnScope st) f cdv A outer s H E).nox (C8.fnBody st) t ∧ t { nx := fun _ H' => Q .non H', rt := Q } (start N vs) H) : C8.Met P w K mg base (k + 1) C x sp [] := by
  obtain ⟨f, me, d⟩ := d
  obtain ⟨fd, F, df⟩ := d.mk2
  exact ⟨f, fd, ps, [], c, me, C8.fn0 F (C8.fnScope_by S) len (hbody f), F.binds df ar, .nil⟩
theorem mkMak {x qual : Str} {st : Stmt} {C : Addr} {N ps : List Str} {k : Nat} {sp : Sp} (hm : mg x = some (.ref C)) (d : ∃ f, Mk K C f ∧ DefAt K "__init__" qual st f) (ar : Arity "__init__" qual st ps) (S : C8.scC N ps (C8.fnScope st) = true) (len : ∀ vs H Q E, sp vs H Q E → vs.length = ps.length)
    (hbody : ∀ (f : Addr) (cdv : Value) (A : Around) (outer : List Env) (s : Shared) (H : Hp) (vs : List V) (Q : VK) (E : XK), Room k (A.deeper (envOfC qual (C8.fnScope st) s.heap.objs.size f cdv)) → sp vs H Q E →
      ∃ t, PSs (cxOf C8.CX0 P w K mg base N qual (C8.fnScope st) f cdv A outer s H E).nox (C8.fnBody st) t ∧ t { nx := fun _ H' => Q .non H', rt := Q } (start N vs) H) : C8.Mak P w K mg base (k + 1) x C sp [] := by
  obtain ⟨f, me, d⟩ := d
  obtain ⟨fd, F, df⟩ := d.mk2
  exact ⟨f, fd, ps, [], me, C8.fn0 F (C8.fnScope_by S) len (hbody f), hm, F.binds df ar, .nil⟩
end
end Wash
/-! Objects made and changed; comprehensions. -/
namespace Wash
open PySem PySem.Spec PyProof.Rows L2

/-! ### all but one object stands -/
structure Xb (p : Addr) (H H' : Hp) : Prop where
  k : ∀ b o, b ≠ p → H b = some o → NT o → H' b = some o
  t : Tb H → Tb H'
theorem Xb.of {p : Addr} {H H' : Hp} (e : Xt H H') : Xb p H H' := ⟨fun b o _ h n => e.k b o h n, e.t⟩
theorem Xb.trans {p : Addr} {H H1 H2 : Hp} (a : Xb p H H1) (b : Xb p H1 H2) : Xb p H H2 := ⟨fun c o n h z => b.k c o n (a.k c o n h z) z, fun h => b.t (a.t h)⟩
theorem tb_upd {H : Hp} {p : Addr} {o u : HO} (h : H p = some u) (nu : NT u) (nx : ∀ φ, u ≠ .ext φ) (t : Tb H) : Tb (upd H p o) := by
  obtain ⟨ps, h1, h2, h3⟩ := t
  refine ⟨ps, ?_, h2, fun pos cv hc => ?_⟩
  · rw [upd_ne]
    · exact h1
    · intro z
      rw [z, h] at h1
      exact nu _ (Option.some.inj h1)
  · obtain ⟨c, e1, e2⟩ := h3 pos cv hc
    refine ⟨c, e1, ?_⟩
    rw [upd_ne]
    · exact e2
    · intro z
      rw [z, h] at e2
      exact nx _ (Option.some.inj e2)
theorem Xb.upd {p : Addr} {H : Hp} {o u : HO} (h : H p = some u) (nu : NT u) (nx : ∀ φ, u ≠ .ext φ) : Xb p H (upd H p o) := ⟨fun b o n h _ => by
  rw [upd_ne n]
  exact h, tb_upd h nu nx⟩
theorem ni {C dx : Addr} {fs : List (Str × V)} : ∀ φ, (HO.ins C dx fs) ≠ .ext φ := fun φ h => by cases h
theorem nl {xs : List V} : ∀ φ, (HO.lst xs) ≠ .ext φ := fun φ h => by cases h

def EvM (te : TE) (σ : L2.St) (H : Hp) (C : Addr) (fs : List (Str × V)) : Prop := ∀ H1, Xt H H1 → ∀ Q : VK, (∀ p dx H2, Nw H1 p → Xt H1 H2 → H2 p = some (.ins C dx fs) → Q (.ref p) H2) → te σ H1 Q
/-- what an __init__ promises that fills its object -/
def spFill (C : Addr) (args : List V) (fs : List (Str × V)) (vs : List V) (H : Hp) (Q : VK) : Prop := ∃ p dx, vs = .ref p :: args ∧ H p = some (.ins C dx []) ∧ ∀ H', Xb p H H' → H' p = some (.ins C dx fs) → Q .non H'
section
variable {K : PySem.W.Frag} {σ : L2.St} {H H' : Hp} {ta tb te tc : TE} {t u : TT} {x y z v : V} {r r' : R2} {o o' : HO}
theorem EvM.mono {C : Addr} {fs : List (Str × V)} (e : Xt H H') (h : EvM te σ H C fs) : EvM te σ H' C fs := fun H1 a Q q => h H1 (e.trans a) Q q
theorem m_make {sp : Sp} {E : XK} {ta : TA} {R : List V → Hp → Prop} {C : Addr} {fs : List (Str × V)} (ha : EvA ta σ H R) (hs : ∀ args H1, Xt H H1 → R args H1 → ∀ p H2 (Q : VK), Xt H1 H2 → spFill C args fs (.ref p :: args) H2 Q → sp (.ref p :: args) H2 Q E) :
    EvM (tMake C sp [] E ta) σ H C fs := fun H1 e Q q => ha H1 e _ fun args H2 e2 k => by
  intro x dx nx nd ne
  rw [List.append_nil]
  have e3 : Xt H2 (upd (upd H2 dx (.own x)) x (.ins C dx [])) := (Xt.new nd).trans (Xt.new (by rw [upd_ne (Ne.symm ne)]; exact nx))
  refine hs args H2 (e.trans e2) k x _ _ e3 ⟨x, dx, rfl, upd_same, fun H' b at_ => ⟨rfl, ?_⟩⟩
  have e4 : Xt H2 H' := ⟨fun c o h n => b.k c o (ne_of_none h nx) (e3.k c o h n) n, fun h => b.t (e3.t h)⟩
  exact q x dx H' (.back e2 (.of nx)) (e2.trans e4) at_
variable {D : Ends} {tz tu tw : TS}
/-- a field is set -/
theorem s_fld {a C dx : Addr} {fs : List (Str × V)} {f : Str} (hv : Ev te σ H v) (h : Ev ta σ H (.ref a)) (ho : H a = some (.ins C dx fs)) (c : Cls K C) (n : NoAttr K C f) (hl : fs.length < 1000) (k : ∀ H1, Xb a H H1 → H1 a = some (.ins C dx (putF f v fs)) → tz D σ H1) : tSeq (sFld K ta te f) tz D σ H :=
  hv H (Xt.refl H) _ fun H1 e1 => h H1 e1 _ fun H2 e2 => ⟨a, C, dx, fs, rfl, (e1.trans e2).k _ _ ho nt_ins, c, n, hl,
    k _ ((Xb.of (e1.trans e2)).trans (Xb.upd ((e1.trans e2).k _ _ ho nt_ins) nt_ins ni)) upd_same⟩
theorem s_fldL {a C dx : Addr} {fs : List (Str × V)} {f : Str} (hv : Ev te σ H v) (h : Ev ta σ H (.ref a)) (ho : H a = some (.ins C dx fs)) (c : Cls K C) (n : NoAttr K C f) (hl : fs.length < 1000) (k : ∀ H1, Xb a H H1 → H1 a = some (.ins C dx (putF f v fs)) → D.nx σ H1) : sFld K ta te f D σ H :=
  hv H (Xt.refl H) _ fun H1 e1 => h H1 e1 _ fun H2 e2 => ⟨a, C, dx, fs, rfl, (e1.trans e2).k _ _ ho nt_ins, c, n, hl,
    k _ ((Xb.of (e1.trans e2)).trans (Xb.upd ((e1.trans e2).k _ _ ho nt_ins) nt_ins ni)) upd_same⟩
/-- .. to a new object -/
theorem s_fldN {a C dx : Addr} {fs : List (Str × V)} {f : Str} (no : NT o) (hv : EvN te σ H o) (h : Ev ta σ H (.ref a)) (ho : H a = some (.ins C dx fs)) (c : Cls K C) (n : NoAttr K C f) (hl : fs.length < 1000)
    (k : ∀ p H1, Nw H p → Xb a H H1 → H1 a = some (.ins C dx (putF f (.ref p) fs)) → H1 p = some o → tz D σ H1) : tSeq (sFld K ta te f) tz D σ H :=
  hv H (Xt.refl H) _ fun p H1 fp e1 hp => h H1 e1 _ fun H2 e2 => ⟨a, C, dx, fs, rfl, (e1.trans e2).k _ _ ho nt_ins, c, n, hl,
    k p _ fp ((Xb.of (e1.trans e2)).trans (Xb.upd ((e1.trans e2).k _ _ ho nt_ins) nt_ins ni)) upd_same (by rw [upd_ne (Ne.symm (fp.ne ho nt_ins))]; exact e2.k _ _ hp no)⟩
theorem s_fldNL {a C dx : Addr} {fs : List (Str × V)} {f : Str} (no : NT o) (hv : EvN te σ H o) (h : Ev ta σ H (.ref a)) (ho : H a = some (.ins C dx fs)) (c : Cls K C) (n : NoAttr K C f) (hl : fs.length < 1000)
    (k : ∀ p H1, Nw H p → Xb a H H1 → H1 a = some (.ins C dx (putF f (.ref p) fs)) → H1 p = some o → D.nx σ H1) : sFld K ta te f D σ H :=
  hv H (Xt.refl H) _ fun p H1 fp e1 hp => h H1 e1 _ fun H2 e2 => ⟨a, C, dx, fs, rfl, (e1.trans e2).k _ _ ho nt_ins, c, n, hl,
    k p _ fp ((Xb.of (e1.trans e2)).trans (Xb.upd ((e1.trans e2).k _ _ ho nt_ins) nt_ins ni)) upd_same (by rw [upd_ne (Ne.symm (fp.ne ho nt_ins))]; exact e2.k _ _ hp no)⟩

/-! ### comprehensions -/
/-- what is walked, its targets included: n turns, asg i: the slots behind the i-th -/
def EvW (wi : TI) (g : TG) (σ : L2.St) (H : Hp) (n : Nat) (asg : Nat → L2.St → L2.St) : Prop := ∀ H1, Xt H H1 → ∀ R : It → Hp → Prop, (∀ (J : It) (G : Hp → Prop) H2, Xt H1 H2 → (∀ H3, Xt H2 H3 → G H3) → (∀ i H3, i < n → G H3 → J.go i H3) → (∀ H3, G H3 → J.stop n H3) →
  (∀ i H3 x H4 σ', i < n → G H3 → J.yld i H3 x H4 → ∀ Q : L2.St → Hp → Prop, (∀ H5, Xt H3 H5 → Q (asg i σ') H5) → g x σ' H4 Q) → R J H2) → wi σ H1 R
theorem w_list {tl : TE} {a : Addr} {xs : List V} {j : Nat} (h : Ev tl σ H (.ref a)) (hx : SqL K H a xs) : EvW (iList K tl) (gName j) σ H xs.length (fun i σ' => σ'.set j xs[i]?) := fun H1 e R k =>
  h H1 e _ fun H2 e2 => ⟨a, rfl, ⟨xs, sq_mono (e.trans e2) hx⟩, k (Itl K a) (fun H3 => SqL K H3 a xs) H2 e2 (fun H3 e3 => sq_mono ((e.trans e2).trans e3) hx) (fun i H3 hi q => walk_list.goes i H3 hi q) (fun H3 q => walk_list.stops H3 q)
    (fun i H3 x H4 σ' hi q y Q kq => by
      obtain ⟨e5, hx5⟩ := walk_list.yields i H3 x H4 hi q y
      subst e5
      have := kq H4 (Xt.refl H4)
      dsimp only at this
      rw [hx5] at this
      exact this)⟩
theorem w_listN {tl : TE} {xs : List V} {j : Nat} (h : EvN tl σ H (.lst xs)) : EvW (iList K tl) (gName j) σ H xs.length (fun i σ' => σ'.set j xs[i]?) := fun H1 e R k =>
  h H1 e _ fun a H2 _ e2 hx => ⟨a, rfl, ⟨xs, SqL.of hx⟩, k (Itl K a) (fun H3 => SqL K H3 a xs) H2 e2 (fun H3 e3 => sq_mono e3 (SqL.of hx)) (fun i H3 hi q => walk_list.goes i H3 hi q) (fun H3 q => walk_list.stops H3 q)
    (fun i H3 x H4 σ' hi q y Q kq => by
      obtain ⟨e5, hx5⟩ := walk_list.yields i H3 x H4 hi q y
      subst e5
      have := kq H4 (Xt.refl H4)
      dsimp only at this
      rw [hx5] at this
      exact this)⟩
theorem w_tup {tl : TE} {a : Addr} {xs : List V} {j : Nat} (h : Ev tl σ H (.ref a)) (hx : SqT K H a xs) : EvW (iTup K tl) (gName j) σ H xs.length (fun i σ' => σ'.set j xs[i]?) := fun H1 e R k =>
  h H1 e _ fun H2 e2 => ⟨a, rfl, ⟨xs, st_mono (e.trans e2) hx⟩, k (Itt K a) (fun H3 => SqT K H3 a xs) H2 e2 (fun H3 e3 => st_mono ((e.trans e2).trans e3) hx) (fun i H3 hi q => walk_tup.goes i H3 hi q) (fun H3 q => walk_tup.stops H3 q)
    (fun i H3 x H4 σ' hi q y Q kq => by
      obtain ⟨e5, hx5⟩ := walk_tup.yields i H3 x H4 hi q y
      subst e5
      have := kq H4 (Xt.refl H4)
      dsimp only at this
      rw [hx5] at this
      exact this)⟩
theorem w_range {ta : TA} {n : Nat} {j : Nat} (h : EvVs ta σ H [.int (n : Int)]) (hn : n ≤ 100000) : EvW (iRng1 ta) (gName j) σ H n (fun i σ' => σ'.set j (some (.int (i : Int)))) := fun H1 e R k =>
  h H1 e _ fun vs H2 e2 kv => by
    subst kv
    refine ⟨n, rfl, by omega, by omega, k (Itr 0 ((n : Int)).toNat) (fun _ => True) H2 e2 (fun _ _ => trivial) (fun i H3 hi q => ?_) (fun H3 q => ?_) (fun i H3 x H4 σ' hi q y Q kq => ?_)⟩
    · exact walk_range.goes i H3 (by rw [Int.toNat_natCast]; exact hi) q
    · have := (walk_range (lo := 0) (n := ((n : Int)).toNat)).stops H3 q
      rw [Int.toNat_natCast] at this ⊢
      exact this
    · obtain ⟨e5, hx5⟩ := walk_range.yields i H3 x H4 (by rw [Int.toNat_natCast]; exact hi) q y
      subst e5 hx5
      have := kq H4 (Xt.refl H4)
      show Q (σ'.set j (some (.int (0 + (i : Int))))) H4
      rw [Int.zero_add]
      exact this
theorem pairs_asg {T : Addr} {x y : V} {j l : Nat} {H3 : Hp} {σ' : L2.St} {Q : L2.St → Hp → Prop} (nT : H3 T = none) (kq : ∀ H5, Xt H3 H5 → Q ((σ'.set j (some x)).set l (some y)) H5) :
    gTup K 2 (gCons (gName j) (gCons (gName l) gNil)) (.ref T) σ' (upd H3 T (.tup [x, y])) Q :=
  ⟨T, [x, y], rfl, SqT.of upd_same, rfl, x, [y], rfl, y, [], rfl, rfl, kq _ (Xt.new nT)⟩
theorem w_enum {ta : TA} {a : Addr} {xs : List V} {j l : Nat} (h : EvVs ta σ H [.ref a]) (hx : SqL K H a xs) : EvW (iEnum K ta) (gTup K 2 (gCons (gName j) (gCons (gName l) gNil))) σ H xs.length (fun i σ' => (σ'.set j (some (.int (i : Int)))).set l xs[i]?) := fun H1 e R k =>
  h H1 e _ fun vs H2 e2 kv => by
    subst kv
    refine ⟨a, xs, rfl, sq_mono (e.trans e2) hx, k (Ite K a) (fun H3 => SqL K H3 a xs) H2 e2 (fun H3 e3 => sq_mono ((e.trans e2).trans e3) hx) (fun i H3 hi q => walk_enum.goes i H3 hi q) (fun H3 q => walk_enum.stops H3 q) (fun i H3 v H4 σ' hi q y Q kq => ?_)⟩
    obtain ⟨T, x, z, rfl, nT, rfl, h1, h2⟩ := walk_enum.yields i H3 v H4 hi q y
    cases h1
    refine pairs_asg nT fun H5 e5 => ?_
    have := kq H5 e5
    dsimp only at this h2
    rw [h2] at this
    exact this
theorem w_zip {ta : TA} {a b : Addr} {xs ys : List V} {j l : Nat} (h : EvVs ta σ H [.ref a, .ref b]) (hx : SqL K H a xs) (hy : SqL K H b ys) (hl : ys.length = xs.length) : EvW (iZip K ta) (gTup K 2 (gCons (gName j) (gCons (gName l) gNil))) σ H xs.length (fun i σ' => (σ'.set j xs[i]?).set l ys[i]?) := fun H1 e R k =>
  h H1 e _ fun vs H2 e2 kv => by
    subst kv
    have W := walk_zip (K := K) (a := a) (b := b) (xs := xs) (ys := ys) (n := xs.length) (by omega)
    refine ⟨a, b, xs, ys, rfl, sq_mono (e.trans e2) hx, sq_mono (e.trans e2) hy, k (Itz K a b) (fun H3 => SqL K H3 a xs ∧ SqL K H3 b ys) H2 e2 (fun H3 e3 => ⟨sq_mono ((e.trans e2).trans e3) hx, sq_mono ((e.trans e2).trans e3) hy⟩) (fun i H3 hi q => W.goes i H3 hi q) (fun H3 q => W.stops H3 q) (fun i H3 v H4 σ' hi q y Q kq => ?_)⟩
    obtain ⟨T, x, z, rfl, nT, rfl, h1, h2⟩ := W.yields i H3 v H4 hi q y
    refine pairs_asg nT fun H5 e5 => ?_
    have := kq H5 e5
    dsimp only at this h1 h2
    rw [h1, h2] at this
    exact this
theorem w_str {z : Str} {j : Nat} (h : Ev te σ H (.str z)) : EvW (iStr te) (gName j) σ H z.cps.size (fun i σ' => σ'.set j (z.cps[i]?.map fun c => V.str ⟨#[c]⟩)) := fun H1 e R k =>
  h H1 e _ fun H2 e2 => ⟨z, rfl, k (Its z) (fun _ => True) H2 e2 (fun _ _ => trivial) (fun i H3 hi q => walk_str.goes i H3 hi q) (fun H3 q => walk_str.stops H3 q)
    (fun i H3 x H4 σ' hi q y Q kq => by
      obtain ⟨e5, c, hc, rfl⟩ := walk_str.yields i H3 x H4 hi q y
      subst e5
      have := kq H4 (Xt.refl H4)
      dsimp only at this
      rw [hc] at this
      exact this)⟩
theorem filt_more {α β : Type} {ys : List α} {i : Nat} {y : α} {f : α → Bool} {e : α → β} (h : ys[i]? = some y) : ((ys.take (i + 1)).filter f).map e = ((ys.take i).filter f).map e ++ (if f y = true then [e y] else []) := by
  rw [List.take_add_one, h, List.filter_append, List.map_append]
  congr 1
  show ((([y] : List α)).filter f).map e = _
  by_cases c : f y = true
  · rw [if_pos c, List.filter_cons, if_pos c] <;> rfl
  · rw [if_neg c, List.filter_cons, if_neg c] <;> rfl
/-- each element by itself -/
theorem n_lc {α : Type} {wi : TI} {g : TG} {tt : TT} {vs : List Nat} {n : Nat} {asg : Nat → L2.St → L2.St} (ys : List α) (f : α → Bool) (e : α → V) (hw : EvW wi g σ H n asg) (hn : n = ys.length) (hz : n ≤ 50000)
    (ht : ∀ i y H1, Xt H H1 → ys[i]? = some y → wipe (asg i (wipe σ vs)) vs = wipe σ vs ∧ EvT tt (asg i (wipe σ vs)) H1 (f y) ∧ (f y = true → Ev te (asg i (wipe σ vs)) H1 (e y))) : EvN (tLc wi g tt te vs) σ H (.lst ((ys.filter f).map e)) := fun H0 e0 Q q =>
  hw H0 e0 _ fun J G H1 e1 hG goes stops ylds D hD => by
    subst hn
    have len : ∀ i, (((ys.take i).filter f).map e).length ≤ ys.length := fun i => by
      rw [List.length_map]
      refine Nat.le_trans (List.length_filter_le _ _) ?_
      rw [List.length_take]
      exact Nat.min_le_right _ _
    refine ⟨fun i m H' => m = ys.length - i ∧ i ≤ ys.length ∧ Xt H1 H' ∧ H' D = some (.lst (((ys.take i).filter f).map e)), ⟨ys.length, by simp, Nat.zero_le _, .new hD, by rw [List.take_zero]; exact upd_same⟩, ?_⟩
    rintro i m H' ⟨rfl, hi, e2, at_⟩
    by_cases hlt : i < ys.length
    · refine .inr ⟨goes i H' hlt (hG H' e2), fun H2 => Xt H1 H2 ∧ H2 D = some (.lst (((ys.take (i + 1)).filter f).map e)), fun H2 h2 => ⟨ys.length - (i + 1), by omega, rfl, hlt, h2.1, h2.2⟩, fun x H2 y => ?_⟩
      have hy : ys[i]? = some ys[i] := List.getElem?_eq_getElem hlt
      refine ylds i H' x H2 _ hlt (hG H' e2) y _ fun H3 e3 => ?_
      obtain ⟨hw', hT, hE⟩ := ht i ys[i] H3 ((e0.trans e1).trans (e2.trans e3)) hy
      refine ⟨hw', hT H3 (Xt.refl H3) _ fun H4 e4 => ?_⟩
      have more := filt_more (f := f) (e := e) hy
      cases c : f ys[i] with
      | true =>
        rw [if_pos rfl]
        rw [c, if_pos rfl] at more
        refine hE c H4 e4 _ fun H5 e5 => ⟨((ys.take i).filter f).map e, ((e3.trans e4).trans e5).k _ _ at_ nt_lst, szlt (by have := len i; omega), ?_, ?_⟩
        · have e6 := e2.trans ((e3.trans e4).trans e5)
          exact ⟨fun b o h nn => by
            rw [upd_ne (ne_of_none h hD)]
            exact e6.k b o h nn, fun h => tb_upd (((e3.trans e4).trans e5).k _ _ at_ nt_lst) nt_lst nl (e6.t h)⟩
        · rw [upd_same, more]
      | false =>
        rw [if_neg Bool.false_ne_true]
        rw [c, if_neg Bool.false_ne_true, List.append_nil] at more
        exact ⟨e2.trans (e3.trans e4), by rw [more]; exact (e3.trans e4).k _ _ at_ nt_lst⟩
    · have hi2 : i = ys.length := by omega
      subst hi2
      rw [List.take_length] at at_
      exact .inl ⟨stops H' (hG H' e2), q D H' (.back e1 (.of hD)) (e1.trans e2) at_⟩
theorem n_map {α : Type} {wi : TI} {g : TG} {vs : List Nat} {n : Nat} {asg : Nat → L2.St → L2.St} (ys : List α) (e : α → V) (hw : EvW wi g σ H n asg) (hn : n = ys.length) (hz : n ≤ 50000)
    (ht : ∀ i y H1, Xt H H1 → ys[i]? = some y → wipe (asg i (wipe σ vs)) vs = wipe σ vs ∧ Ev te (asg i (wipe σ vs)) H1 (e y)) : EvN (tLc wi g tYes te vs) σ H (.lst (ys.map e)) := by
  have := n_lc (tt := tYes) (te := te) (vs := vs) ys (fun _ => true) e hw hn hz fun i y H1 e1 hy => ⟨(ht i y H1 e1 hy).1, t_yes, fun _ => (ht i y H1 e1 hy).2⟩
  rw [show ys.filter (fun _ => true) = ys from List.filter_eq_self.mpr fun _ _ => rfl] at this
  exact this
/-- elements that are new: each with what it stands on (fp), and what is told of it (R) -/
theorem n_lcO {α : Type} {wi : TI} {g : TG} {vs : List Nat} {n : Nat} {asg : Nat → L2.St → L2.St} (ys : List α) (R : α → Addr → List Addr → Hp → Prop) (hw : EvW wi g σ H n asg) (hn : n = ys.length) (hz : n ≤ 50000)
    (hR : ∀ y m fp H1 H2, R y m fp H1 → (∀ b ∈ fp, ∀ o, H1 b = some o → NT o → H2 b = some o) → R y m fp H2) (hin : ∀ y m fp H1, R y m fp H1 → m ∈ fp ∧ ∃ o, H1 m = some o ∧ NT o)
    (ht : ∀ i y H1, Xt H H1 → ys[i]? = some y → wipe (asg i (wipe σ vs)) vs = wipe σ vs ∧ ∀ H2, Xt H1 H2 → ∀ Q : VK, (∀ m fp H3, (∀ b ∈ fp, Nw H2 b) → Xt H2 H3 → R y m fp H3 → Q (.ref m) H3) → te (asg i (wipe σ vs)) H2 Q)
    {H0 : Hp} (e0 : Xt H H0) {Q : VK} (q : ∀ p (el : List (Addr × List Addr)) H2, Nw H0 p → Xt H0 H2 → H2 p = some (.lst ((el.map (·.1)).map V.ref)) → el.length = ys.length → (el.map (·.1)).Nodup → (∀ (i : Nat) e y, el[i]? = some e → ys[i]? = some y → R y e.1 e.2 H2 ∧ p ∉ e.2 ∧ ∀ b ∈ e.2, Nw H0 b) → Q (.ref p) H2) :
    tLc wi g tYes te vs σ H0 Q :=
  hw H0 e0 _ fun J G H1 e1 hG goes stops ylds D hD => by
    subst hn
    refine ⟨fun i m H' => m = ys.length - i ∧ i ≤ ys.length ∧ Xt H1 H' ∧ ∃ el : List (Addr × List Addr), H' D = some (.lst ((el.map (·.1)).map V.ref)) ∧ el.length = i ∧ (el.map (·.1)).Nodup ∧ ∀ (j : Nat) e y, el[j]? = some e → ys[j]? = some y → R y e.1 e.2 H' ∧ D ∉ e.2 ∧ ∀ b ∈ e.2, Nw H0 b,
      ⟨ys.length, by simp, Nat.zero_le _, .new hD, [], upd_same, rfl, List.nodup_nil, fun j e y h => by simp at h⟩, ?_⟩
    rintro i m H' ⟨rfl, hi, e2, el, at_, hlen, nd, hel⟩
    by_cases hlt : i < ys.length
    · refine .inr ⟨goes i H' hlt (hG H' e2), fun H2 => Xt H1 H2 ∧ ∃ el : List (Addr × List Addr), H2 D = some (.lst ((el.map (·.1)).map V.ref)) ∧ el.length = i + 1 ∧ (el.map (·.1)).Nodup ∧ ∀ (j : Nat) e y, el[j]? = some e → ys[j]? = some y → R y e.1 e.2 H2 ∧ D ∉ e.2 ∧ ∀ b ∈ e.2, Nw H0 b,
        fun H2 h2 => ⟨ys.length - (i + 1), by omega, rfl, hlt, h2.1, h2.2⟩, fun x H2 y => ?_⟩
      have hy : ys[i]? = some ys[i] := List.getElem?_eq_getElem hlt
      refine ylds i H' x H2 _ hlt (hG H' e2) y _ fun H3 e3 => ?_
      obtain ⟨hw', hE⟩ := ht i ys[i] H3 ((e0.trans e1).trans (e2.trans e3)) hy
      refine ⟨hw', ?_⟩
      refine t_yes (σ := asg i (wipe σ vs)) (H := H3) H3 (Xt.refl H3) _ fun H4 e4 => ?_
      rw [if_pos rfl]
      have e3 := e3.trans e4
      refine hE H4 e4 _ fun mm fp H5 nfp e5 r => ?_
      have at5 := (e3.trans e5).k _ _ at_ nt_lst
      have Dfp : D ∉ fp := fun z => nfp D z _ (e3.k _ _ at_ nt_lst) nt_lst
      obtain ⟨mfp, ob, hob, nob⟩ := hin _ _ _ _ r
      refine ⟨(el.map (·.1)).map V.ref, at5, szlt (by rw [List.length_map, List.length_map, hlen]; omega), ?_, el ++ [(mm, fp)], ?_, by rw [List.length_append, hlen] <;> rfl, ?_, ?_⟩
      · have e6 := e2.trans (e3.trans e5)
        exact ⟨fun b o h nn => by
          rw [upd_ne (ne_of_none h hD)]
          exact e6.k b o h nn, fun h => tb_upd at5 nt_lst nl (e6.t h)⟩
      · rw [upd_same, List.map_append, List.map_append]
        rfl
      · rw [List.map_append, List.nodup_append]
        refine ⟨nd, by simp, fun a ha b hb => ?_⟩
        have hb' : b = mm := by simpa using hb
        rw [hb']
        rintro rfl
        obtain ⟨pr, hpr, epr⟩ := List.mem_map.mp ha
        obtain ⟨j, hj, ej⟩ := List.mem_iff_getElem.mp hpr
        obtain ⟨r1, _, _⟩ := hel j pr ys[j] (by rw [← ej]; exact List.getElem?_eq_getElem hj) (List.getElem?_eq_getElem (by omega))
        obtain ⟨_, o1, ho1, no1⟩ := hin _ _ _ _ r1
        rw [epr] at ho1
        exact nfp _ mfp o1 (e3.k _ _ ho1 no1) no1
      · intro j e y he hy2
        by_cases hj : j < el.length
        · rw [List.getElem?_append_left hj] at he
          obtain ⟨r1, r2, r3⟩ := hel j e y he hy2
          refine ⟨hR _ _ _ _ _ r1 fun b hb o ho no => ?_, r2, r3⟩
          rw [upd_ne (fun z => r2 (by rw [← z]; exact hb))]
          exact (e3.trans e5).k _ _ ho no
        · have hji : j = i := by
            have := (List.getElem?_eq_some_iff.mp hy2).1
            have := (List.getElem?_eq_some_iff.mp he).1
            rw [List.length_append] at this
            simp at this
            omega
          subst hji
          rw [← hlen, List.getElem?_append_right (Nat.le_refl _), Nat.sub_self] at he
          cases he
          rw [hy] at hy2
          cases hy2
          refine ⟨hR _ _ _ _ _ r fun b hb o ho no => ?_, Dfp, fun b hb => .back (e1.trans (e2.trans e3)) (nfp b hb)⟩
          rw [upd_ne (fun z => Dfp (by rw [← z]; exact hb))]
          exact ho
    · have hi2 : i = ys.length := by omega
      subst hi2
      exact .inl ⟨stops H' (hG H' e2), q D el H' (.back e1 (.of hD)) (e1.trans e2) at_ hlen nd hel⟩
/-- a for over what stands still -/
theorem s_for {wi : TI} {g : TG} {tb : TS} {n : Nat} {asg : Nat → L2.St → L2.St} (hw : EvW wi g σ H n asg) (Pv : Hp → Nat → L2.St → Hp → Prop) (h0 : ∀ H1, Xt H H1 → Pv H1 0 σ H1) (hX : ∀ H1 i σ' H', Pv H1 i σ' H' → Xt H1 H')
    (hs : ∀ H1 i σ' H', Xt H H1 → i < n → Pv H1 i σ' H' → ∀ H5, Xt H' H5 → tb { D with nx := Pv H1 (i + 1), ct := Pv H1 (i + 1), bk := D.nx } (asg i σ') H5) (hd : ∀ H1 σ' H', Xt H H1 → Pv H1 n σ' H' → D.nx σ' H') : tFor wi g tb D σ H :=
  hw H (Xt.refl H) _ fun J G H1 e1 hG goes stops ylds => by
    refine ⟨fun i m σ' H' => m = n - i ∧ i ≤ n ∧ Pv H1 i σ' H', ⟨n, by simp, Nat.zero_le _, h0 H1 e1⟩, ?_⟩
    rintro i m σ' H' ⟨rfl, hi, pv⟩
    have e2 := hX _ _ _ _ pv
    by_cases hlt : i < n
    · exact .inr ⟨goes i H' hlt (hG H' e2), Pv H1 (i + 1), fun σ2 H2 h2 => ⟨n - (i + 1), by omega, rfl, hlt, h2⟩, fun x H2 y => ylds i H' x H2 _ hlt (hG H' e2) y _ fun H5 e5 => hs H1 i σ' H' e1 hlt pv H5 e5⟩
    · have hi2 : i = n := by omega
      subst hi2
      exact .inl ⟨stops H' (hG H' e2), hd H1 σ' H' e1 pv⟩
theorem s_forS {wi : TI} {g : TG} {tb : TS} {n : Nat} {asg : Nat → L2.St → L2.St} (hw : EvW wi g σ H n asg) (Pv : Hp → Nat → L2.St → Hp → Prop) (h0 : ∀ H1, Xt H H1 → Pv H1 0 σ H1) (hX : ∀ H1 i σ' H', Pv H1 i σ' H' → Xt H1 H')
    (hs : ∀ H1 i σ' H', Xt H H1 → i < n → Pv H1 i σ' H' → ∀ H5, Xt H' H5 → tb { D with nx := Pv H1 (i + 1), ct := Pv H1 (i + 1), bk := tz D } (asg i σ') H5) (hd : ∀ H1 σ' H', Xt H H1 → Pv H1 n σ' H' → tz D σ' H') : tSeq (tFor wi g tb) tz D σ H :=
  s_for (D := { D with nx := tz D }) hw Pv h0 hX hs hd
end
end Wash
/-! Labels and their signs, without the program. -/
namespace Wash
open Kyk1
def labs (x : Label) : List Nat := [x.wash, x.gentle, x.bleach, x.dry, x.iron]
theorem labs_inj {x y : Label} (h : labs x = labs y) : x = y := by
  obtain ⟨a, b, c, d, e⟩ := x
  obtain ⟨a', b', c', d', e'⟩ := y
  simp only [labs, List.cons.injEq, and_true] at h
  obtain ⟨rfl, rfl, rfl, rfl, rfl⟩ := h
  rfl
theorem ok_parts {x : Label} (h : okLabel x = true) : (x.wash = 0 ∨ x.wash = 30 ∨ x.wash = 40 ∨ x.wash = 60 ∨ x.wash = 95) ∧ x.gentle ≤ 2 ∧ x.bleach ≤ 2 ∧ x.dry ≤ 2 ∧ x.iron ≤ 3 ∧ (x.wash = 0 → x.gentle = 0) := by
  simp only [okLabel, heats, Bool.and_eq_true, Bool.or_eq_true, decide_eq_true_eq, beq_iff_eq, List.contains_cons, List.contains_nil, bne_iff_ne, ne_eq] at h
  obtain ⟨⟨⟨⟨⟨h1, h2⟩, h3⟩, h4⟩, h5⟩, h6⟩ := h
  refine ⟨?_, h2, h3, h4, h5, fun e => ?_⟩
  · rcases h1 with h1 | h1 | h1 | h1 | h1 | h1
    · exact .inl h1
    · exact .inr (.inl h1)
    · exact .inr (.inr (.inl h1))
    · exact .inr (.inr (.inr (.inl h1)))
    · exact .inr (.inr (.inr (.inr h1)))
    · cases h1
  · rcases h6 with h6 | h6
    · exact absurd e h6
    · exact h6
theorem ok_of {x : Label} (h1 : x.wash = 0 ∨ x.wash = 30 ∨ x.wash = 40 ∨ x.wash = 60 ∨ x.wash = 95) (h2 : x.gentle ≤ 2) (h3 : x.bleach ≤ 2) (h4 : x.dry ≤ 2) (h5 : x.iron ≤ 3) (h6 : x.wash = 0 → x.gentle = 0) : okLabel x = true := by
  simp only [okLabel, heats, Bool.and_eq_true, Bool.or_eq_true, decide_eq_true_eq, beq_iff_eq, List.contains_cons, List.contains_nil, bne_iff_ne, ne_eq]
  refine ⟨⟨⟨⟨⟨?_, h2⟩, h3⟩, h4⟩, h5⟩, ?_⟩
  · rcases h1 with h1 | h1 | h1 | h1 | h1
    · exact .inl h1
    · exact .inr (.inl h1)
    · exact .inr (.inr (.inl h1))
    · exact .inr (.inr (.inr (.inl h1)))
    · exact .inr (.inr (.inr (.inr (.inl h1))))
  · by_cases e : x.wash = 0
    · exact .inr (h6 e)
    · exact .inl e
/-- all labels, looked at one by one -/
def allOk (f : Label → Bool) : Bool := [0, 30, 40, 60, 95].all fun w => (List.range 3).all fun g => (List.range 3).all fun b => (List.range 3).all fun d => (List.range 4).all fun i => f ⟨w, g, b, d, i⟩
theorem of_all {f : Label → Bool} (h : allOk f = true) {x : Label} (hx : okLabel x = true) : f x = true := by
  obtain ⟨h1, h2, h3, h4, h5, _⟩ := ok_parts hx
  obtain ⟨w, g, b, d, i⟩ := x
  simp only [allOk, List.all_eq_true, List.mem_range] at h
  exact h w (by simp only [List.mem_cons, List.not_mem_nil, or_false]; exact h1) g (by show g < 3; exact Nat.lt_succ_of_le h2) b (Nat.lt_succ_of_le h3) d (Nat.lt_succ_of_le h4) i (Nat.lt_succ_of_le h5)
theorem read_told {x : Label} (h : okLabel x = true) : read (told x) = some x := by
  have e := of_all (f := fun x => !okLabel x || (match read (told x) with | some y => labs y == labs x | none => false)) (by decide +kernel) h
  simp only [h, Bool.not_true, Bool.false_or] at e
  split at e
  · rename_i y hy
    rw [hy, labs_inj (beq_iff_eq.mp e)]
  · cases e
theorem digit_some {b m d : Nat} (h : digit b m = some d) : b = 48 + d ∧ d ≤ m := by
  unfold digit at h
  split at h
  · cases h
    omega
  · cases h
theorem rest_told {w g : Nat} {l : Bytes} {x : Label} (h : rest w g l = some x) : okLabel x = true ∧ x.wash = w ∧ x.gentle = g ∧ l = [66, 48 + x.bleach, 68, 48 + x.dry, 73, 48 + x.iron] := by
  unfold rest at h
  split at h
  · rename_i b d i
    cases h1 : digit b 2 with
    | none => rw [h1] at h; cases h
    | some p =>
      cases h2 : digit d 2 with
      | none => rw [h1, h2] at h; cases h
      | some q =>
        cases h3 : digit i 3 with
        | none => rw [h1, h2, h3] at h; cases h
        | some r =>
          rw [h1, h2, h3] at h
          simp only [Option.bind_some] at h
          split at h
          · rename_i ok
            cases h
            obtain ⟨rfl, _⟩ := digit_some h1
            obtain ⟨rfl, _⟩ := digit_some h2
            obtain ⟨rfl, _⟩ := digit_some h3
            exact ⟨ok, rfl, rfl, rfl⟩
          · cases h
  · cases h
theorem told_read {t : Bytes} {x : Label} (h : read t = some x) : okLabel x = true ∧ told x = t := by
  unfold Kyk1.read at h
  split at h
  · rename_i a b l
    cases h1 : digit a 9 with
    | none => rw [h1] at h; cases h
    | some p =>
      cases h2 : digit b 9 with
      | none => rw [h1, h2] at h; cases h
      | some q =>
        rw [h1, h2] at h
        simp only [Option.bind_some] at h
        obtain ⟨rfl, hp⟩ := digit_some h1
        obtain ⟨rfl, hq⟩ := digit_some h2
        have key : ∀ g m, rest (10 * p + q) g m = some x → l = List.replicate g 95 ++ m → okLabel x = true ∧ told x = 87 :: (48 + p) :: (48 + q) :: l := fun g m hr hl => by
          obtain ⟨ok, hw, hg, hm⟩ := rest_told hr
          refine ⟨ok, ?_⟩
          unfold told
          rw [hw, hg, hl, hm, show (10 * p + q) / 10 = p by omega, show (10 * p + q) % 10 = q by omega]
          rfl
        split at h
        · exact key 2 _ h rfl
        · exact key 1 _ h rfl
        · exact key 0 _ h rfl
  · cases h
/-- what the program takes out of the signs of a label -/
theorem told_facts {x : Label} (h : okLabel x = true) : (told x).length = 9 + x.gentle ∧ (told x).count 95 = x.gentle ∧ 10 * ((told x).getD 1 0 - 48) + ((told x).getD 2 0 - 48) = x.wash ∧ 48 ≤ (told x).getD 1 0 ∧ 48 ≤ (told x).getD 2 0 ∧
    (told x).getD (4 + x.gentle) 0 = 48 + x.bleach ∧ (told x).getD (6 + x.gentle) 0 = 48 + x.dry ∧ (told x).getD (8 + x.gentle) 0 = 48 + x.iron := by
  have e := of_all (f := fun x => !okLabel x || (decide ((told x).length = 9 + x.gentle) && decide ((told x).count 95 = x.gentle) && decide (10 * ((told x).getD 1 0 - 48) + ((told x).getD 2 0 - 48) = x.wash) && decide (48 ≤ (told x).getD 1 0) && decide (48 ≤ (told x).getD 2 0) &&
    decide ((told x).getD (4 + x.gentle) 0 = 48 + x.bleach) && decide ((told x).getD (6 + x.gentle) 0 = 48 + x.dry) && decide ((told x).getD (8 + x.gentle) 0 = 48 + x.iron))) (by decide +kernel) h
  simp only [h, Bool.not_true, Bool.false_or, Bool.and_eq_true, decide_eq_true_eq] at e
  obtain ⟨⟨⟨⟨⟨⟨⟨e1, e2⟩, e3⟩, e4⟩, e5⟩, e6⟩, e7⟩, e8⟩ := e
  exact ⟨e1, e2, e3, e4, e5, e6, e7, e8⟩
end Wash
/-! Things and programs, without the program. -/
namespace Wash
open Kyk1
def maxN (l : List Nat) : Nat := l.foldl max 0
def minN (k : Nat) (l : List Nat) : Nat := l.foldl min k
theorem foldl_max_ge : ∀ (l : List Nat) (n : Nat), n ≤ l.foldl max n ∧ ∀ y ∈ l, y ≤ l.foldl max n
  | [], n => ⟨Nat.le_refl _, fun y h => nomatch h⟩
  | a :: r, n => by
    obtain ⟨h1, h2⟩ := foldl_max_ge r (max n a)
    refine ⟨Nat.le_trans (Nat.le_max_left _ _) h1, fun y hy => ?_⟩
    rcases List.mem_cons.mp hy with rfl | hy
    · exact Nat.le_trans (Nat.le_max_right _ _) h1
    · exact h2 y hy
theorem foldl_max_in : ∀ (l : List Nat) (n : Nat), l.foldl max n = n ∨ l.foldl max n ∈ l
  | [], n => .inl rfl
  | a :: r, n => by
    show r.foldl max (max n a) = n ∨ r.foldl max (max n a) ∈ a :: r
    rcases foldl_max_in r (max n a) with h | h
    · rw [h]
      rcases Nat.le_total n a with c | c
      · rw [Nat.max_eq_right c]
        exact .inr (List.mem_cons_self ..)
      · rw [Nat.max_eq_left c]
        exact .inl rfl
    · exact .inr (List.mem_cons_of_mem _ h)
theorem foldl_min_le : ∀ (l : List Nat) (n : Nat), l.foldl min n ≤ n ∧ ∀ y ∈ l, l.foldl min n ≤ y
  | [], n => ⟨Nat.le_refl _, fun y h => nomatch h⟩
  | a :: r, n => by
    obtain ⟨h1, h2⟩ := foldl_min_le r (min n a)
    refine ⟨Nat.le_trans h1 (Nat.min_le_left _ _), fun y hy => ?_⟩
    rcases List.mem_cons.mp hy with rfl | hy
    · exact Nat.le_trans h1 (Nat.min_le_right _ _)
    · exact h2 y hy
theorem foldl_min_in : ∀ (l : List Nat) (n : Nat), l.foldl min n = n ∨ l.foldl min n ∈ l
  | [], n => .inl rfl
  | a :: r, n => by
    show r.foldl min (min n a) = n ∨ r.foldl min (min n a) ∈ a :: r
    rcases foldl_min_in r (min n a) with h | h
    · rw [h]
      rcases Nat.le_total n a with c | c
      · rw [Nat.min_eq_left c]
        exact .inl rfl
      · rw [Nat.min_eq_right c]
        exact .inr (List.mem_cons_self ..)
    · exact .inr (List.mem_cons_of_mem _ h)
theorem is_max {l : List Nat} {m : Nat} (h : m ∈ l) (hm : ∀ y ∈ l, y ≤ m) : m = maxN l := by
  have h1 := (foldl_max_ge l 0).2 m h
  rcases foldl_max_in l 0 with h2 | h2
  · unfold maxN
    omega
  · exact Nat.le_antisymm h1 (hm _ h2)
theorem is_min {l : List Nat} {m k : Nat} (h : m ∈ l) (hm : ∀ y ∈ l, m ≤ y) (hk : ∀ y ∈ l, y ≤ k) : m = minN k l := by
  have h1 := (foldl_min_le l k).2 m h
  have h3 := hk m h
  rcases foldl_min_in l k with h2 | h2
  · unfold minN
    omega
  · exact Nat.le_antisymm (hm _ h2) h1
theorem max_le {l : List Nat} {k : Nat} : maxN l ≤ k ↔ ∀ y ∈ l, y ≤ k := by
  refine ⟨fun h y hy => Nat.le_trans ((foldl_max_ge l 0).2 y hy) h, fun h => ?_⟩
  rcases foldl_max_in l 0 with h2 | h2
  · unfold maxN
    omega
  · exact h _ h2
theorem le_min {l : List Nat} {k h : Nat} : h ≤ minN k l ↔ h ≤ k ∧ ∀ y ∈ l, h ≤ y := by
  refine ⟨fun q => ⟨Nat.le_trans q (foldl_min_le l k).1, fun y hy => Nat.le_trans q ((foldl_min_le l k).2 y hy)⟩, fun q => ?_⟩
  rcases foldl_min_in l k with h2 | h2
  · unfold minN
    rw [h2]
    exact q.1
  · exact q.2 _ h2
theorem foldl_map_max {α : Type} (f : α → Nat) : ∀ (l : List α) (n : Nat), l.foldl (fun n x => max n (f x)) n = (l.map f).foldl max n
  | [], _ => rfl
  | a :: r, n => foldl_map_max f r (max n (f a))
theorem foldl_map_min {α : Type} (f : α → Nat) : ∀ (l : List α) (n : Nat), l.foldl (fun n x => min n (f x)) n = (l.map f).foldl min n
  | [], _ => rfl
  | a :: r, n => foldl_map_min f r (min n (f a))
/-- the heats that fit all, as the program takes them -/
def fitHeats (l : List Thing) : List Nat := heats.filter fun h => decide (maxN (l.map (·.need)) ≤ h) && decide (h ≤ minN 95 (l.map (·.label.wash)))
theorem fits_all {l : List Thing} {h : Nat} (hh : h ∈ heats) : (l.all fun x => decide (x.need ≤ h) && decide (h ≤ x.label.wash)) = (decide (maxN (l.map (·.need)) ≤ h) && decide (h ≤ minN 95 (l.map (·.label.wash)))) := by
  have h95 : h ≤ 95 := by
    simp only [heats, List.mem_cons, List.not_mem_nil, or_false] at hh
    omega
  rw [Bool.eq_iff_iff, List.all_eq_true, Bool.and_eq_true, decide_eq_true_eq, decide_eq_true_eq, max_le, le_min]
  constructor
  · intro q
    refine ⟨fun y hy => ?_, h95, fun y hy => ?_⟩
    · obtain ⟨x, hx, rfl⟩ := List.mem_map.mp hy
      exact (of_decide_eq_true (Bool.and_eq_true_iff.mp (q x hx)).1)
    · obtain ⟨x, hx, rfl⟩ := List.mem_map.mp hy
      exact (of_decide_eq_true (Bool.and_eq_true_iff.mp (q x hx)).2)
  · rintro ⟨q1, _, q2⟩ x hx
    rw [Bool.and_eq_true, decide_eq_true_eq, decide_eq_true_eq]
    exact ⟨q1 _ (List.mem_map.mpr ⟨x, hx, rfl⟩), q2 _ (List.mem_map.mpr ⟨x, hx, rfl⟩)⟩
theorem find_head {α : Type} (p : α → Bool) : ∀ l : List α, l.find? p = (l.filter p).head?
  | [] => rfl
  | a :: r => by
    rw [List.find?_cons, List.filter_cons]
    cases p a with
    | true => rfl
    | false => exact find_head p r
theorem filter_same {α : Type} {p q : α → Bool} : ∀ {l : List α}, (∀ a ∈ l, p a = q a) → l.filter p = l.filter q
  | [], _ => rfl
  | a :: r, h => by
    rw [List.filter_cons, List.filter_cons, h a (List.mem_cons_self ..), filter_same fun b hb => h b (List.mem_cons_of_mem _ hb)]
theorem program_eq (l : List Thing) : program l = (fitHeats l).head?.map fun h => ⟨h, maxN (l.map (·.label.gentle)), minN 2 (l.map (·.label.bleach)), minN 2 (l.map (·.label.dry))⟩ := by
  unfold program
  rw [find_head, foldl_map_max (fun x : Thing => x.label.gentle), foldl_map_min (fun x : Thing => x.label.bleach), foldl_map_min (fun x : Thing => x.label.dry), filter_same (fun h hh => fits_all (l := l) hh)]
  rfl
theorem program_isSome (l : List Thing) : (program l).isSome = !(fitHeats l).isEmpty := by
  rw [program_eq]
  cases fitHeats l <;> rfl
/-! colours -/
def colB (l : List Thing) : Bool := match l with
  | [] => true
  | a :: _ => l.all fun x => x.colour == a.colour
theorem colours_eq {l : List Thing} (hne : l ≠ []) : coloursAll l = (if l.all (fun x => !x.runs) = true then true else colB l) := by
  cases l with
  | nil => exact absurd rfl hne
  | cons a r =>
    rw [Bool.eq_iff_iff]
    simp only [coloursAll, colours, List.all_eq_true, Bool.or_eq_true, beq_iff_eq, Bool.and_eq_true, Bool.not_eq_true']
    constructor
    · intro h
      split
      · rfl
      · rename_i c
        simp only [colB, List.all_eq_true, beq_iff_eq]
        have : ∃ z ∈ a :: r, z.runs = true := by
          apply Classical.byContradiction
          intro c2
          exact c fun x hx => by
            cases e : x.runs with
            | false => rfl
            | true => exact absurd ⟨x, hx, e⟩ c2
        obtain ⟨z, hz, hr⟩ := this
        have key : ∀ y ∈ a :: r, z.colour = y.colour := fun y hy => by
          rcases h z hz y hy with q | q
          · exact q
          · rw [hr] at q
            cases q.1
        intro x hx
        exact (key x hx).symm.trans (key a (List.mem_cons_self ..))
    · intro h x hx y hy
      split at h
      · rename_i c
        exact .inr ⟨c x hx, c y hy⟩
      · simp only [colB, List.all_eq_true, beq_iff_eq] at h
        exact .inl ((h x hx).trans (h y hy).symm)
def togB (l : List Thing) : Bool := (if l.all (fun x => !x.runs) = true then true else colB l) && !(fitHeats l).isEmpty
theorem together_eq {l : List Thing} (hne : l ≠ []) : together l = togB l := by
  unfold together togB
  rw [colours_eq hne, program_isSome]
end Wash
/-! Things shared out, without the program. -/
namespace Wash
open Kyk1 Kyk2
/-! ### two by two is enough -/
def Pair2 (x y : Thing) : Prop := colours x y = true ∧ ∃ h ∈ heats, x.need ≤ h ∧ h ≤ x.label.wash ∧ y.need ≤ h ∧ h ≤ y.label.wash
theorem prog_some {l : List Thing} : (program l).isSome = true ↔ ∃ h ∈ heats, ∀ x ∈ l, x.need ≤ h ∧ h ≤ x.label.wash := by
  unfold program
  rw [Option.isSome_map, List.find?_isSome]
  constructor
  · rintro ⟨h, hh, q⟩
    exact ⟨h, hh, fun x hx => by
      have := List.all_eq_true.mp q x hx
      simpa using this⟩
  · rintro ⟨h, hh, q⟩
    exact ⟨h, hh, List.all_eq_true.mpr fun x hx => by simpa using q x hx⟩
theorem least_heat {n : Nat} (h : ∃ k ∈ heats, n ≤ k) : ∃ k ∈ heats, n ≤ k ∧ ∀ j ∈ heats, n ≤ j → k ≤ j := by
  obtain ⟨k, hk, hn⟩ := h
  simp only [heats, List.mem_cons, List.not_mem_nil, or_false] at hk ⊢
  by_cases h1 : n ≤ 30
  · exact ⟨30, by omega, h1, by omega⟩
  · by_cases h2 : n ≤ 40
    · exact ⟨40, by omega, h2, by omega⟩
    · by_cases h3 : n ≤ 60
      · exact ⟨60, by omega, h3, by omega⟩
      · exact ⟨95, by omega, by omega, by omega⟩
theorem max_need : ∀ l : List Thing, l ≠ [] → ∃ x ∈ l, ∀ y ∈ l, y.need ≤ x.need
  | [], h => absurd rfl h
  | [a], _ => ⟨a, List.mem_cons_self .., fun y hy => by
    rcases List.mem_cons.mp hy with rfl | hy
    · exact Nat.le_refl _
    · cases hy⟩
  | a :: b :: r, _ => by
    obtain ⟨x, hx, hm⟩ := max_need (b :: r) (List.cons_ne_nil _ _)
    rcases Nat.le_total a.need x.need with c | c
    · exact ⟨x, List.mem_cons_of_mem _ hx, fun y hy => by
        rcases List.mem_cons.mp hy with rfl | hy
        · exact c
        · exact hm y hy⟩
    · exact ⟨a, List.mem_cons_self .., fun y hy => by
        rcases List.mem_cons.mp hy with rfl | hy
        · exact Nat.le_refl _
        · exact Nat.le_trans (hm y hy) c⟩
theorem together_iff {l : List Thing} (hne : l ≠ []) : together l = true ↔ ∀ x ∈ l, ∀ y ∈ l, Pair2 x y := by
  unfold together coloursAll
  rw [Bool.and_eq_true, prog_some]
  simp only [List.all_eq_true]
  constructor
  · rintro ⟨h1, h, hh, h2⟩ x hx y hy
    exact ⟨h1 x hx y hy, h, hh, (h2 x hx).1, (h2 x hx).2, (h2 y hy).1, (h2 y hy).2⟩
  · intro q
    refine ⟨fun x hx y hy => (q x hx y hy).1, ?_⟩
    obtain ⟨x, hx, hm⟩ := max_need l hne
    obtain ⟨_, h0, hh0, n0, _⟩ := q x hx x hx
    obtain ⟨k, hk, hn, hl⟩ := least_heat ⟨h0, hh0, n0⟩
    refine ⟨k, hk, fun y hy => ⟨Nat.le_trans (hm y hy) hn, ?_⟩⟩
    obtain ⟨_, h1, hh1, n1, _, _, w1⟩ := q x hx y hy
    exact Nat.le_trans (hl h1 hh1 n1) w1
theorem pair_symm {x y : Thing} (h : Pair2 x y) : Pair2 y x := by
  obtain ⟨h1, h, hh, a, b, c, d⟩ := h
  refine ⟨?_, h, hh, c, d, a, b⟩
  simp only [colours, Bool.or_eq_true, beq_iff_eq, Bool.and_eq_true, Bool.not_eq_true'] at h1 ⊢
  rcases h1 with h1 | h1
  · exact .inl h1.symm
  · exact .inr ⟨h1.2, h1.1⟩
theorem two_iff {z x : Thing} : together [z, x] = true ↔ Pair2 z z ∧ Pair2 z x ∧ Pair2 x x := by
  rw [together_iff (List.cons_ne_nil _ _)]
  constructor
  · intro q
    exact ⟨q z (by simp) z (by simp), q z (by simp) x (by simp), q x (by simp) x (by simp)⟩
  · rintro ⟨h1, h2, h3⟩ a ha b hb
    simp only [List.mem_cons, List.not_mem_nil, or_false] at ha hb
    rcases ha with rfl | rfl <;> rcases hb with rfl | rfl
    · exact h1
    · exact h2
    · exact pair_symm h2
    · exact h3
/-- one more -/
theorem together_more {X : List Thing} {z : Thing} (hz : together [z] = true) (hX : X ≠ [] → together X = true) : together (X ++ [z]) = X.all fun x => together [z, x] := by
  have pz : Pair2 z z := (together_iff (List.cons_ne_nil _ _)).mp hz z (by simp) z (by simp)
  rw [Bool.eq_iff_iff, together_iff (by simp), List.all_eq_true]
  constructor
  · intro q x hx
    exact two_iff.mpr ⟨pz, q z (by simp) x (by simp [hx]), q x (by simp [hx]) x (by simp [hx])⟩
  · intro q a ha b hb
    rw [List.mem_append, List.mem_singleton] at ha hb
    rcases ha with ha | rfl <;> rcases hb with hb | rfl
    · exact (together_iff (List.ne_nil_of_mem ha)).mp (hX (List.ne_nil_of_mem ha)) a ha b hb
    · exact pair_symm (two_iff.mp (q a ha)).2.1
    · exact (two_iff.mp (q b hb)).2.1
    · exact pz
/-! ### the ways, as the program goes through them -/
def pcD : Piece := ⟨⟨⟨0, 0, 0, 0, 0⟩, 0, 0, false⟩, 0⟩
def insideN (way : List Nat) (load : Nat) : List Nat := (List.range way.length).filter fun p => way.getD p 0 == load
def takesB (d : Nat) (l : List Piece) (way : List Nat) (load : Nat) : Bool :=
  decide ((l.getD way.length pcD).w + ((insideN way load).map fun p => (l.getD p pcD).w).sum ≤ d) && (insideN way load).all fun p => together [(l.getD way.length pcD).x, (l.getD p pcD).x]
def begun (way : List Nat) : Nat := way.foldl (fun n i => max n (i + 1)) 0
def fin (d : Nat) (l : List Piece) (most : Nat) : Nat → List Nat → Option (List Nat)
  | 0, way => some way
  | f + 1, way => firstSome (fun load => if takesB d l way load = true then fin d l most f (way ++ [load]) else none) (List.range (min (begun way + 1) most))
theorem sum_eq (l : List Nat) : Kyk2.sum l = l.sum := by
  unfold Kyk2.sum
  have : ∀ (l : List Nat) (n : Nat), l.foldl (· + ·) n = n + l.sum := by
    intro l
    induction l with
    | nil => intro n; rfl
    | cons a r ih =>
      intro n
      rw [List.foldl_cons, ih, List.sum_cons]
      omega
  rw [this]
  omega
theorem inside_map {β : Type} (f : Piece → β) : ∀ (l : List Piece) (a : List Nat) (i : Nat), a.length ≤ l.length → (insideN a i).map (fun p => f (l.getD p pcD)) = (inLoad l a i).map f
  | _, [], _, _ => by
    unfold insideN inLoad
    simp
  | [], _ :: _, _, h => by simp at h
  | p :: l, b :: a, i, h => by
    have ih := inside_map f l a i (by simpa using h)
    unfold insideN inLoad at ih ⊢
    rw [List.length_cons, List.range_succ_eq_map, List.zip_cons_cons, List.filter_cons, List.filter_cons]
    have e : (List.map Nat.succ (List.range a.length)).filter (fun p => (b :: a).getD p 0 == i) = ((List.range a.length).filter fun p => a.getD p 0 == i).map Nat.succ := by
      rw [List.filter_map]
      rfl
    rw [e]
    have e2 : List.map (fun q => f ((p :: l).getD q pcD)) (List.map Nat.succ ((List.range a.length).filter fun p => a.getD p 0 == i)) = List.map (fun q => f (l.getD q pcD)) ((List.range a.length).filter fun p => a.getD p 0 == i) := by
      rw [List.map_map]
      rfl
    by_cases c : (b == i) = true
    · rw [if_pos (show ((b :: a).getD 0 0 == i) = true from c), if_pos (show ((p, b).2 == i) = true from c), List.map_cons, List.map_cons, List.map_cons, e2, ih]
      rfl
    · rw [if_neg (show ¬ ((b :: a).getD 0 0 == i) = true from c), if_neg (show ¬ ((p, b).2 == i) = true from c), e2, ih]
theorem zip_snoc {α β : Type} : ∀ (l : List α) (a : List β) (i : β) (z : α), l[a.length]? = some z → l.zip (a ++ [i]) = l.zip a ++ [(z, i)]
  | [], a, i, z, h => by simp at h
  | x :: l, [], i, z, h => by
    have e : x = z := by simpa using h
    subst e
    simp
  | x :: l, b :: a, i, z, h => by
    have h' : l[a.length]? = some z := by simpa using h
    rw [List.cons_append, List.zip_cons_cons, zip_snoc l a i z h', List.zip_cons_cons, List.cons_append]
theorem inLoad_snoc {l : List Piece} {a : List Nat} {i j : Nat} {z : Piece} (h : l[a.length]? = some z) : inLoad l (a ++ [i]) j = inLoad l a j ++ (if i = j then [z] else []) := by
  unfold inLoad
  rw [zip_snoc l a i z h, List.filter_append, List.map_append]
  congr 1
  by_cases c : i = j
  · subst c
    simp
  · simp [c]
/-- every load so far is one -/
def Good (d : Nat) (l : List Piece) (a : List Nat) : Prop := ∀ j, inLoad l a j ≠ [] → load d (inLoad l a j) = true
theorem takes_eq {d : Nat} {l : List Piece} {a : List Nat} {i : Nat} {z : Piece} (h : l[a.length]? = some z) (hz : together [z.x] = true) (g : Good d l a) : takesB d l a i = load d (inLoad l (a ++ [i]) i) := by
  have hl : a.length ≤ l.length := Nat.le_of_lt (List.getElem?_eq_some_iff.mp h).1
  have ez : l.getD a.length pcD = z := by
    rw [List.getD_eq_getElem?_getD, h]
    rfl
  rw [inLoad_snoc h, if_pos rfl]
  unfold takesB load
  rw [ez, sum_eq, List.map_append, List.map_append, List.sum_append, inside_map (fun p => p.w) l a i hl]
  rw [show List.map (fun p : Piece => p.x) [z] = [z.x] from rfl, together_more hz (fun hne => by
    have := g i (fun e => hne (by rw [e]; rfl))
    exact (Bool.and_eq_true_iff.mp this).1)]
  rw [Bool.and_comm]
  congr 1
  · have := inside_map (fun p => together [z.x, p.x]) l a i hl
    have e := congrArg (fun bs => bs.all id) this
    simp only [List.all_map] at e
    rw [List.all_map]
    exact e
  · congr 1
    rw [Nat.add_comm]
    rfl
theorem begun_snoc (a : List Nat) (i : Nat) : begun (a ++ [i]) = max (begun a) (i + 1) := by
  unfold begun
  rw [List.foldl_append]
  rfl
theorem firstSome_congr {f g : Nat → Option (List Nat)} : ∀ {l : List Nat}, (∀ i ∈ l, f i = g i) → firstSome f l = firstSome g l
  | [], _ => rfl
  | a :: r, h => by
    unfold firstSome
    rw [h a (List.mem_cons_self ..), firstSome_congr fun i hi => h i (List.mem_cons_of_mem _ hi)]
theorem good_snoc {d : Nat} {l : List Piece} {a : List Nat} {i : Nat} {z : Piece} (h : l[a.length]? = some z) (g : Good d l a) (t : load d (inLoad l (a ++ [i]) i) = true) : Good d l (a ++ [i]) := fun j hj => by
  by_cases c : i = j
  · subst c
    exact t
  · rw [inLoad_snoc h, if_neg c, List.append_nil] at hj ⊢
    exact g j hj
theorem wayOn_fin {d k : Nat} {l : List Piece} (alone : ∀ p ∈ l, together [p.x] = true) : ∀ (r : List Piece) (a : List Nat), l.drop a.length = r → a.length ≤ l.length → Good d l a → wayOn d k l r (begun a) a = fin d l k r.length a
  | [], a, _, _, _ => rfl
  | z :: r, a, e, hl, g => by
    have h : l[a.length]? = some z := by
      have := congrArg (fun x => x[0]?) e
      simpa using this
    have e2 : l.drop (a.length + 1) = r := by
      have := congrArg (fun x => x.drop 1) e
      simpa [List.drop_drop] using this
    have hlt := (List.getElem?_eq_some_iff.mp h).1
    show firstSome (fun i => if load d (inLoad l (a ++ [i]) i) then wayOn d k l r (max (begun a) (i + 1)) (a ++ [i]) else none) (List.range (min k (begun a + 1))) = firstSome (fun i => if takesB d l a i = true then fin d l k r.length (a ++ [i]) else none) (List.range (min (begun a + 1) k))
    rw [Nat.min_comm]
    refine firstSome_congr fun i _ => ?_
    rw [takes_eq h (alone z (List.mem_of_getElem? h)) g]
    by_cases t : load d (inLoad l (a ++ [i]) i) = true
    · rw [if_pos t, if_pos t, ← begun_snoc]
      exact wayOn_fin alone r (a ++ [i]) (by rw [List.length_append]; exact e2) (by rw [List.length_append]; exact hlt) (good_snoc h g t)
    · rw [if_neg t, if_neg t]
theorem firstSome_some {f : Nat → Option (List Nat)} {b : List Nat} : ∀ {l : List Nat}, firstSome f l = some b → ∃ i ∈ l, f i = some b
  | [], h => by cases h
  | a :: r, h => by
    unfold firstSome at h
    split at h
    · rename_i c hc
      cases h
      exact ⟨a, List.mem_cons_self .., hc⟩
    · obtain ⟨i, hi, e⟩ := firstSome_some h
      exact ⟨i, List.mem_cons_of_mem _ hi, e⟩
theorem firstSome_is {f : Nat → Option (List Nat)} : ∀ {l : List Nat} {i : Nat}, i ∈ l → (f i).isSome = true → (firstSome f l).isSome = true
  | [], _, h, _ => by cases h
  | a :: r, i, h, hs => by
    unfold firstSome
    cases e : f a with
    | some c => rfl
    | none =>
      rcases List.mem_cons.mp h with rfl | h
      · rw [e] at hs
        cases hs
      · exact firstSome_is h hs
/-- what a way that is found looks like -/
theorem fin_facts {d k : Nat} {l : List Piece} (alone : ∀ p ∈ l, together [p.x] = true) : ∀ (f : Nat) (a b : List Nat), a.length + f = l.length → Good d l a → fin d l k f a = some b → b.length = l.length ∧ Good d l b ∧ (∀ i ∈ b, i ∈ a ∨ i < k) ∧ ∃ c, b = a ++ c
  | 0, a, b, e, g, h => by
    cases h
    exact ⟨by omega, g, fun i hi => .inl hi, [], by simp⟩
  | f + 1, a, b, e, g, h => by
    obtain ⟨i, hi, hf⟩ := firstSome_some h
    split at hf
    · rename_i t
      have hlt : a.length < l.length := by omega
      have hz : l[a.length]? = some l[a.length] := List.getElem?_eq_getElem hlt
      rw [takes_eq hz (alone _ (List.getElem_mem hlt)) g] at t
      obtain ⟨h1, h2, h3, c, h4⟩ := fin_facts alone f (a ++ [i]) b (by rw [List.length_append]; simp; omega) (good_snoc hz g t) hf
      rw [List.mem_range] at hi
      refine ⟨h1, h2, fun j hj => ?_, [i] ++ c, by rw [h4, List.append_assoc]⟩
      rcases h3 j hj with q | q
      · rw [List.mem_append, List.mem_singleton] at q
        rcases q with q | rfl
        · exact .inl q
        · exact .inr (by omega)
      · exact .inr q
    · cases hf
/-- the same way is found with fewer loads, if it needs no more -/
theorem fin_fewer {d k k' : Nat} {l : List Piece} (hk : k' ≤ k) : ∀ (f : Nat) (a b : List Nat), fin d l k f a = some b → (∀ i ∈ b, i < k') → (∃ c, b = a ++ c) → (fin d l k' f a).isSome = true
  | 0, a, b, h, _, _ => rfl
  | f + 1, a, b, h, hb, _ => by
    obtain ⟨i, hi, hf⟩ := firstSome_some h
    split at hf
    · rename_i t
      rw [List.mem_range] at hi
      have hib : i ∈ b := by
        have key : ∀ (f : Nat) (a b : List Nat), fin d l k f a = some b → ∀ j ∈ a, j ∈ b := by
          intro f
          induction f with
          | zero => intro a b h j hj; cases h; exact hj
          | succ f ih =>
            intro a b h j hj
            obtain ⟨i, _, hf⟩ := firstSome_some h
            split at hf
            · exact ih _ _ hf j (by simp [hj])
            · cases hf
        exact key f _ _ hf i (by simp)
      have hik := hb i hib
      show (firstSome (fun load => if takesB d l a load = true then fin d l k' f (a ++ [load]) else none) (List.range (min (begun a + 1) k'))).isSome = true
      refine firstSome_is (i := i) (List.mem_range.mpr (by omega)) ?_
      rw [if_pos t]
      refine fin_fewer hk f (a ++ [i]) b hf hb ?_
      have key2 : ∀ (f : Nat) (a b : List Nat), fin d l k f a = some b → ∃ c, b = a ++ c := by
        intro f
        induction f with
        | zero => intro a b h; cases h; exact ⟨[], by simp⟩
        | succ f ih =>
          intro a b h
          obtain ⟨i, _, hf⟩ := firstSome_some h
          split at hf
          · obtain ⟨c, hc⟩ := ih _ _ hf
            exact ⟨i :: c, by rw [hc]; simp⟩
          · cases hf
      exact key2 f _ _ hf
    · cases hf
/-- with a load for each there is a way -/
theorem fin_there {d k : Nat} {l : List Piece} (alone : ∀ p ∈ l, load d [p] = true) : ∀ (f : Nat) (a : List Nat), a.length + f = l.length → (∀ i ∈ a, i < begun a) → begun a + f ≤ k → (fin d l k f a).isSome = true
  | 0, a, _, _, _ => rfl
  | f + 1, a, e, hb, hk => by
    have hlt : a.length < l.length := by omega
    show (firstSome (fun load => if takesB d l a load = true then fin d l k f (a ++ [load]) else none) (List.range (min (begun a + 1) k))).isSome = true
    refine firstSome_is (i := begun a) (List.mem_range.mpr (by omega)) ?_
    have none_in : insideN a (begun a) = [] := by
      unfold insideN
      rw [List.filter_eq_nil_iff]
      intro p hp
      rw [List.mem_range] at hp
      have : a.getD p 0 ∈ a := by
        rw [List.getD_eq_getElem?_getD, List.getElem?_eq_getElem hp]
        exact List.getElem_mem hp
      have := hb _ this
      rw [beq_iff_eq]
      omega
    have t : takesB d l a (begun a) = true := by
      have al := alone (l.getD a.length pcD) (by
        rw [List.getD_eq_getElem?_getD, List.getElem?_eq_getElem hlt]
        exact List.getElem_mem hlt)
      unfold load at al
      rw [sum_eq, Bool.and_eq_true, decide_eq_true_eq] at al
      unfold takesB
      rw [none_in]
      simp at al ⊢
      exact al.2
    rw [if_pos t]
    refine fin_there alone f _ (by rw [List.length_append]; simp; omega) (fun i hi => ?_) (by rw [begun_snoc]; omega)
    rw [begun_snoc]
    rw [List.mem_append, List.mem_singleton] at hi
    rcases hi with hi | rfl
    · have := hb i hi
      omega
    · omega
theorem good_nil {d : Nat} {l : List Piece} : Good d l [] := fun j h => absurd (show inLoad l [] j = [] by unfold inLoad; simp) h
theorem load_tog {d : Nat} {p : Piece} (h : load d [p] = true) : together [p.x] = true := (Bool.and_eq_true_iff.mp h).1
theorem find_range {p : Nat → Bool} : ∀ {n k : Nat}, (List.range n).find? p = some k → k < n ∧ p k = true ∧ ∀ j, j < k → p j = false := by
  intro n k h
  obtain ⟨h1, as, bs, h2, h3⟩ := List.find?_eq_some_iff_append.mp h
  have hk : k < n := List.mem_range.mp (by rw [h2]; simp)
  refine ⟨hk, h1, fun j hj => ?_⟩
  have lenA : as.length = k := by
    have e : (List.range n)[as.length]? = some k := by rw [h2]; simp
    rw [List.getElem?_range (by
      have := congrArg List.length h2
      simp at this
      omega)] at e
    exact Option.some.inj e
  have : j ∈ as := by
    have e : (List.range n)[j]? = as[j]? := by
      rw [h2, List.getElem?_append_left (by omega)]
    rw [List.getElem?_range (by omega)] at e
    exact List.mem_of_getElem? e.symm
  have := h3 j this
  simpa using this
/-- what best tells, by the program's own ways -/
theorem best_fin {d : Nat} {l : List Piece} (alone : ∀ p ∈ l, load d [p] = true) (hne : l ≠ []) : ∃ k a, best d l = some (k, a) ∧ 1 ≤ k ∧ k ≤ l.length ∧ fin d l k l.length [] = some a ∧ (∀ j, j < k → fin d l j l.length [] = none) ∧ a.length = l.length ∧ Good d l a ∧ (∀ i ∈ a, i < k) ∧ (∃ i ∈ a, k = i + 1) := by
  have al : ∀ p ∈ l, together [p.x] = true := fun p hp => load_tog (alone p hp)
  have eq : ∀ k, wayOn d k l l 0 [] = fin d l k l.length [] := fun k => wayOn_fin (k := k) al l [] rfl (Nat.zero_le _) good_nil
  unfold best
  have there : (fin d l l.length l.length []).isSome = true := fin_there alone l.length [] (by simp) (fun i hi => by cases hi) (by show 0 + l.length ≤ l.length; omega)
  cases hf : (List.range (l.length + 1)).find? fun k => (wayOn d k l l 0 []).isSome with
  | none =>
    have := List.find?_eq_none.mp hf l.length (by simp)
    rw [eq, there] at this
    exact absurd rfl this
  | some k =>
    obtain ⟨h1, h2, h3⟩ := find_range hf
    rw [eq] at h2
    obtain ⟨a, ha⟩ := Option.isSome_iff_exists.mp h2
    obtain ⟨f1, f2, f3, _⟩ := fin_facts al l.length [] a (by simp) good_nil ha
    have below : ∀ j, j < k → fin d l j l.length [] = none := fun j hj => by
      have := h3 j hj
      rw [eq] at this
      cases e : fin d l j l.length [] with
      | none => rfl
      | some b => rw [e] at this; cases this
    have lt : ∀ i ∈ a, i < k := fun i hi => by
      rcases f3 i hi with q | q
      · cases q
      · exact q
    have apos : a ≠ [] := fun e => by
      rw [e] at f1
      exact hne (List.length_eq_zero_iff.mp f1.symm)
    have kpos : 1 ≤ k := by
      cases a with
      | nil => exact absurd rfl apos
      | cons i r =>
        have := lt i (List.mem_cons_self ..)
        omega
    refine ⟨k, a, ?_, kpos, by omega, ha, below, f1, f2, lt, ?_⟩
    · show (wayOn d k l l 0 []).map (fun a => (k, a)) = _
      rw [eq, ha]
      rfl
    · apply Classical.byContradiction
      intro c
      have lt2 : ∀ i ∈ a, i < k - 1 := fun i hi => by
        have := lt i hi
        have : k ≠ i + 1 := fun e => c ⟨i, hi, e⟩
        omega
      have := fin_fewer (k' := k - 1) (by omega) l.length [] a ha lt2 ⟨a, rfl⟩
      rw [below (k - 1) (by omega)] at this
      cases this
end Wash
/-! Labels. -/
namespace Wash
open PySem PySem.Spec PyProof.Rows L2
theorem lk_hit {k : Str} {v : V} {r : List (Str × V)} : List.lookup k ((k, v) :: r) = some v := by
  have e : (k == k) = true := beq_self_eq_true k
  simp only [List.lookup, e]
theorem lk_skip {k g : Str} {v : V} {r : List (Str × V)} (h : (k == g) = false) : List.lookup k ((g, v) :: r) = List.lookup k r := by
  simp only [List.lookup, h]
def labF (h g b d i : Int) : List (Str × V) := [("heat", .int h), ("gentle", .int g), ("bleach", .int b), ("dry", .int d), ("iron", .int i)]
abbrev nV (n : Nat) : V := .int (n : Int)
def labFx (x : Kyk1.Label) : List (Str × V) := labF x.wash x.gentle x.bleach x.dry x.iron
def LabAt (H : Hp) (a : Addr) (x : Kyk1.Label) : Prop := ∃ dx, H a = some (.ins cLabel dx (labFx x))
theorem LabAt.mono {H H' : Hp} {a : Addr} {x : Kyk1.Label} (e : Xt H H') (h : LabAt H a x) : LabAt H' a x := let ⟨dx, q⟩ := h; ⟨dx, e.k _ _ q nt_ins⟩
theorem labF_heat {h g b d i : Int} : (labF h g b d i).lookup (Str.ofString "heat") = some (.int h) := rfl
theorem labF_gentle {h g b d i : Int} : (labF h g b d i).lookup (Str.ofString "gentle") = some (.int g) := rfl
theorem labF_bleach {h g b d i : Int} : (labF h g b d i).lookup (Str.ofString "bleach") = some (.int b) := rfl
theorem labF_dry {h g b d i : Int} : (labF h g b d i).lookup (Str.ofString "dry") = some (.int d) := rfl
theorem labF_iron {h g b d i : Int} : (labF h g b d i).lookup (Str.ofString "iron") = some (.int i) := rfl
/-! the text of a label -/
def dgS (n : Nat) : Str := Str.ofString (toString ((n : Nat) : Int))
theorem dgS_of {n : Nat} (h : n ≤ 3) : (dgS n).cps = #[48 + n] := by
  have : ∀ m : Fin 4, (dgS m.val).cps = #[48 + m.val] := by decide +kernel
  exact this ⟨n, by omega⟩
theorem heatS_of {n : Nat} (h : n = 0 ∨ n = 30 ∨ n = 40 ∨ n = 60 ∨ n = 95) : (Txt.zfill (dgS n) 2).cps = #[48 + n / 10, 48 + n % 10] := by
  rcases h with rfl | rfl | rfl | rfl | rfl <;> decide +kernel
theorem small_log {n : Nat} (h : n < 256) : ((n : Nat) : Int).natAbs.log2 < 1920 := by
  have e : ((n : Nat) : Int).natAbs = n := rfl
  rw [e]
  have := Nat.log2_lt (n := n) (k := 1920)
  by_cases h0 : n = 0
  · subst h0; decide
  · exact (this h0).mpr (Nat.lt_trans h (by decide))
theorem app_cps (a b : Str) : (a ++ b).cps = a.cps ++ b.cps := rfl
def heatsB (h : Int) : Bool := inV (.int h) (([0, 30, 40, 60, 95] : List Int).map V.int)
theorem heatsB_iff {h : Int} : heatsB h = true ↔ h = 0 ∨ h = 30 ∨ h = 40 ∨ h = 60 ∨ h = 95 := by
  simp only [heatsB, inV, List.map_cons, List.map_nil, List.any_cons, List.any_nil, eqV, Bool.or_false, Bool.or_eq_true, beq_iff_eq]
  omega
/-- what is_allowed says of any numbers -/
def allowedB (h g b d i : Int) : Bool := heatsB h && !decide ((if h > 0 then 2 else 0) < g) && (decide (0 ≤ b) && decide (b ≤ 2) && (decide (0 ≤ d) && decide (d ≤ 2) && (decide (0 ≤ i) && decide (i ≤ 3))))
theorem allowed_of {x : Kyk1.Label} (h : Kyk1.okLabel x = true) : allowedB x.wash x.gentle x.bleach x.dry x.iron = true := by
  obtain ⟨h1, h2, h3, h4, h5, h6⟩ := ok_parts h
  simp only [allowedB, Bool.and_eq_true, decide_eq_true_eq, Bool.not_eq_true', decide_eq_false_iff_not, heatsB_iff]
  refine ⟨⟨by omega, ?_⟩, ⟨by omega, by omega⟩, ⟨by omega, by omega⟩, by omega, by omega⟩
  split <;> omega
theorem of_allowed {h g b d i : Int} (hg : 0 ≤ g) (q : allowedB h g b d i = true) : ∃ x : Kyk1.Label, Kyk1.okLabel x = true ∧ h = x.wash ∧ g = x.gentle ∧ b = x.bleach ∧ d = x.dry ∧ i = x.iron := by
  simp only [allowedB, Bool.and_eq_true, decide_eq_true_eq, Bool.not_eq_true', decide_eq_false_iff_not, heatsB_iff] at q
  obtain ⟨⟨h1, h2⟩, ⟨h3, h4⟩, ⟨h5, h6⟩, h7, h8⟩ := q
  have h2' : g ≤ 2 ∧ (h = 0 → g = 0) := by
    split at h2 <;> omega
  exact ⟨⟨h.toNat, g.toNat, b.toNat, d.toNat, i.toNat⟩, ok_of (by dsimp only; omega) (by dsimp only; omega) (by dsimp only; omega) (by dsimp only; omega) (by dsimp only; omega) (by dsimp only; omega), by dsimp only; omega, by dsimp only; omega, by dsimp only; omega, by dsimp only; omega, by dsimp only; omega⟩
section
variable {K : PySem.W.Frag} {σ : L2.St} {H : Hp} {te ta tb : TE} {z : V}
/-- a method of a built-in's value -/
theorem e_bm {T : String} {r : V → List V → Hp → VK → Prop} {ta : TA} {R : List V → Hp → Prop} {x : V} (h : Ev te σ H x) (ty : ∀ H1, Xt H H1 → tyV K T x H1) (ha : EvA ta σ H R) (hr : ∀ vs H1, Xt H H1 → R vs H1 → ∀ Q : VK, Q z H1 → r x vs H1 Q) : Ev (tBM K T r te ta) σ H z := fun H1 e Q q =>
  h H1 e _ fun H2 e2 => ⟨ty H2 (e.trans e2), ha H2 (e.trans e2) _ fun vs H3 e3 k => hr vs H3 ((e.trans e2).trans e3) k Q (q H3 (e2.trans e3))⟩
theorem eqv_ints : ∀ ns ms : List Int, PyData.eqv (.list (ns.map .int)) (.list (ms.map .int)) = decide (ns = ms)
  | [], [] => by decide
  | [], _ :: _ => by simp [PyData.eqv, PyData.eqvAll]
  | _ :: _, [] => by simp [PyData.eqv, PyData.eqvAll]
  | n :: ns, m :: ms => by
    have ih := eqv_ints ns ms
    simp only [PyData.eqv] at ih
    simp only [PyData.eqv, List.map_cons, PyData.eqvAll, ih]
    by_cases h : n = m
    · subst h; simp
    · simp [h]
theorem dp_ints {H : Hp} : ∀ ns : List Int, DpAll K H (ns.map V.int) (ns.map PyData.int)
  | [] => .nil
  | n :: ns => .cons (.int n) (dp_ints ns)
theorem lay_ints : ∀ ns : List Int, PyData.canLayAll0 (ns.map .int) = true ∧ PyData.depthAll (ns.map .int) = 0
  | [] => ⟨by simp [PyData.canLayAll0], by simp [PyData.depthAll]⟩
  | n :: ns => by
    obtain ⟨h1, h2⟩ := lay_ints ns
    exact ⟨by simp [PyData.canLayAll0, PyData.canLay0, h1], by simp [PyData.depthAll, PyData.depth, h2]⟩
theorem shaped_ints (ns : List Int) : SeqAt.shaped (.list (ns.map .int)) = true := by
  obtain ⟨h1, h2⟩ := lay_ints ns
  simp [SeqAt.shaped, PyData.canLay0, PyData.depth, h1, h2]
theorem e_len {a : Addr} {xs : List V} (h : Ev te σ H (.ref a)) (hx : SqL K H a xs) : Ev (tCB (fun ys H Q => ∃ p zs, ys = [.ref p] ∧ (SqL K H p zs ∨ SqT K H p zs) ∧ Q (.int zs.length) H) (tCons te tNil)) σ H (.int (xs.length : Int)) :=
  e_cb (a_cons h a_nil) (by
    rintro _ H1 e1 ⟨_, rfl, rfl⟩ H2 e2 Q q
    exact ⟨a, xs, rfl, .inl (sq_mono (e1.trans e2) hx), q H2 (Xt.refl _)⟩)
theorem e_lenN {xs : List V} (h : EvN te σ H (.lst xs)) : Ev (tCB (fun ys H Q => ∃ p zs, ys = [.ref p] ∧ (SqL K H p zs ∨ SqT K H p zs) ∧ Q (.int zs.length) H) (tCons te tNil)) σ H (.int (xs.length : Int)) :=
  e_cb (a_consN nt_lst h a_nil) (by
    rintro _ H1 e1 ⟨p, _, rfl, _, hp, rfl⟩ H2 e2 Q q
    exact ⟨p, xs, rfl, .inl (SqL.of (e2.k _ _ hp nt_lst)), q H2 (Xt.refl _)⟩)
/-! f'..' -/
def Js (ts : List TE) (acc : Str) (σ : L2.St) (H : Hp) (out : Str) : Prop := acc.length ≤ out.length ∧ (out.length ≤ 1000 → ∀ H1, Xt H H1 → ∀ Q : Str → Hp → Prop, (∀ H2, Xt H1 H2 → Q out H2) → tJs ts acc σ H1 Q)
theorem app_len (a b : Str) : (a ++ b).length = a.length + b.length := Array.size_append
theorem j_nil {acc : Str} : Js [] acc σ H acc := ⟨Nat.le_refl _, fun _ H1 _ Q q => q H1 (Xt.refl _)⟩
theorem j_e {ts : List TE} {acc y out : Str} (h : Ev te σ H (.str y)) (r : Js ts (acc ++ y) σ H out) : Js (te :: ts) acc σ H out :=
  ⟨Nat.le_trans (by rw [app_len]; exact Nat.le_add_right _ _) r.1, fun z H1 e Q q => h H1 e _ fun H2 e2 => ⟨y, rfl, Nat.le_trans r.1 (Nat.le_trans z (by decide)), r.2 z H2 (e.trans e2) Q fun H3 e3 => q H3 (e2.trans e3)⟩⟩
theorem e_fmtS {y : Str} (h : Ev te σ H (.str y)) (hz : y.length ≤ 1000) : Ev (tFmt te) σ H (.str y) := fun H1 e Q q => h H1 e _ fun H2 e2 => .inl ⟨y, rfl, Nat.le_trans hz (by decide), q H2 e2⟩
theorem e_fmtN {n : Nat} (h : Ev te σ H (.int (n : Int))) (hz : n < 256) : Ev (tFmt te) σ H (.str (dgS n)) := fun H1 e Q q => h H1 e _ fun H2 e2 => .inr ⟨n, rfl, small_log hz, q H2 e2⟩
theorem e_joined {ts : List TE} {out : Str} (r : Js ts Str.empty σ H out) (hz : out.length ≤ 1000) : Ev (fun σ H Q => tJs ts Str.empty σ H fun out H1 => Q (.str out) H1) σ H (.str out) := fun H1 e Q q => r.2 hz H1 e _ fun H2 e2 => q H2 e2
variable {D : Ends} {tz : TS}
theorem s_asgM {i : Nat} {C : Addr} {fs : List (Str × V)} (h : EvM te σ H C fs) (k : ∀ p dx H1, Nw H p → Xt H H1 → H1 p = some (.ins C dx fs) → tz D (σ.set i (some (.ref p))) H1) : tSeq (tAsg te (gName i)) tz D σ H := h H (Xt.refl H) _ fun p dx H1 f e hp => k p dx H1 f e hp
end
section
variable {P : Program} {w : World} {K : PySem.W.Frag} {mg : Str → Option Value} {base : Heap}
def spLabelI : Sp := fun vs H Q _ => ∃ h g b d i : Int, spFill cLabel [.int h, .int g, .int b, .int d, .int i] (labF h g b d i) vs H Q
theorem ok_Label (T : Txt K mg) : C8.Mak P w K mg base 1 "Label" cLabel spLabelI [] := by
  have nd := (C8.fnScope_by sc_Label_init).nd
  refine mkMak T.m_Label T.k_Label (fun _ _ _ _ _ _ us hl => match us, hl with | [_, _, _, _, _, _], _ => rfl) sc_Label_init ?len fun f cdv A outer s H vs Q E hr h => ⟨_, (pss_cons (ps_fld (pv 0) (pv 1) rfl)
      (pss_cons (ps_fld (pv 0) (pv 2) rfl)
      (pss_cons (ps_fld (pv 0) (pv 3) rfl)
      (pss_cons (ps_fld (pv 0) (pv 4) rfl)
      (pss_one (ps_fld (pv 0) (pv 5) rfl)))))), ?body⟩
  case len =>
    rintro vs H Q E ⟨_, _, _, _, _, p, dx, rfl, _⟩
    rfl
  case body =>
    obtain ⟨h, g, b, d, i, p, dx, rfl, h0, k⟩ := h
    refine s_fld e_var e_var h0 T.c_Label T.n_Label_heat (by decide) fun H1 b1 h1 => ?_
    refine s_fld e_var e_var h1 T.c_Label T.n_Label_gentle (by show 1 < 1000; decide) fun H2 b2 h2 => ?_
    refine s_fld e_var e_var h2 T.c_Label T.n_Label_bleach (by show 2 < 1000; decide) fun H3 b3 h3 => ?_
    refine s_fld e_var e_var h3 T.c_Label T.n_Label_dry (by show 3 < 1000; decide) fun H4 b4 h4 => ?_
    refine s_fldL e_var e_var h4 T.c_Label T.n_Label_iron (by show 4 < 1000; decide) fun H5 b5 h5 => ?_
    exact k H5 ((((b1.trans b2).trans b3).trans b4).trans b5) (h5.trans rfl)
def spDigit : Sp := fun vs H Q _ => ∃ n : Int, vs = [.int n] ∧ RetV (.int (n - 48)) H Q
theorem e_ord {σ : L2.St} {H : Hp} {te : TE} {c : Nat} (h : Ev te σ H (.str ⟨#[c]⟩)) : Ev (tCB (fun xs H Q => ∃ x, xs = [.str x] ∧ x.length = 1 ∧ Q (.int (x.cps.getD 0 0 : Nat)) H) (tCons te tNil)) σ H (.int (c : Int)) :=
  e_cb (a_cons h a_nil) (by
    rintro _ H1 e1 ⟨_, rfl, rfl⟩ H2 e2 Q q
    exact ⟨_, rfl, rfl, q H2 (Xt.refl _)⟩)
theorem ok_digit (T : Txt K mg) : C8.Cal P w K mg base 1 "digit_of" spDigit [] := by
  have nd := (C8.fnScope_by sc_digit_of).nd
  refine mkCal1 T.d_digit_of T.m_digit_of (fun _ _ _ _ _ _ us hl => match us, hl with | [_], _ => rfl) sc_digit_of ?len fun cdv A outer s H vs Q E hr h => ⟨_, (pss_one (ps_ret (pe_op op_sub (pv 0) (pe_callB call_ord (by rfl) T.b_ord (by decide +kernel) (pa_cons pe_str pa_nil))))), ?body⟩
  case len =>
    rintro vs H Q E ⟨_, rfl, _⟩
    rfl
  case body =>
    obtain ⟨n, rfl, k⟩ := h
    exact s_ret (e_op e_var (e_ord (c := 48) e_c) rv_i0) k
def spSigns : Sp := fun vs H Q _ => ∃ a x, vs = [.ref a] ∧ LabAt H a x ∧ Kyk1.okLabel x = true ∧ RetN (.lst ((Kyk1.told x).map nV)) H Q
def spAllowed : Sp := fun vs H Q _ => ∃ a dx h g b d i, vs = [.ref a] ∧ H a = some (.ins cLabel dx (labF h g b d i)) ∧ RetV (.bl (allowedB h g b d i)) H Q
theorem ok_allowed (T : Txt K mg) : C8.Cal P w K mg base 1 "is_allowed" spAllowed [] := by
  have nd := (C8.fnScope_by sc_is_allowed).nd
  refine mkCal1 T.d_is_allowed T.m_is_allowed (fun _ _ _ _ _ _ us hl => match us, hl with | [_], _ => rfl) sc_is_allowed ?len fun cdv A outer s H vs Q E hr h => ⟨_, (pss_cons (ps_if (pt_cmpR op_notIn_seq (pe_fld (pv 0) rfl) (C8.pe_gc rfl T.g_LABEL_HEATS) (by rfl)) (pss_one (ps_ret pe_bl)) pss_nil)
      (pss_cons (ps_if (pt_cmpR op_gt (pe_fld (pv 0) rfl) (pe_ifExp (pt_cmpR op_gt (pe_fld (pv 0) rfl) pe_int (nomark _)) (C8.pe_gc rfl T.g_MOST_GENTLE) pe_int) (nomark _)) (pss_one (ps_ret pe_bl)) pss_nil)
      (pss_one (ps_ret (pe_and (pe_chain op_le op_le pe_int (pe_fld (pv 0) rfl) (C8.pe_gc rfl T.g_MOST_BLEACH)) (pe_and (pe_chain op_le op_le pe_int (pe_fld (pv 0) rfl) (C8.pe_gc rfl T.g_MOST_DRY)) (pe_one (pe_chain op_le op_le pe_int (pe_fld (pv 0) rfl) (C8.pe_gc rfl T.g_MOST_IRON))))))))), ?body⟩
  case len =>
    rintro vs H Q E ⟨_, _, _, _, _, _, _, rfl, _⟩
    rfl
  case body =>
    obtain ⟨a, dx, h, g, b, d, i, rfl, h0, k⟩ := h
    refine s_when (b := !heatsB h) (t_test (e_op (e_fld e_var h0 T.c_Label T.n_Label_heat labF_heat) e_c (rv_inT (T.t_LABEL_HEATS H) rfl rfl))) (fun c H1 e1 => ?_) fun c H1 e1 => ?_
    · have c' : heatsB h = false := Bool.not_eq_true' _ ▸ c
      rw [show allowedB h g b d i = false by unfold allowedB; rw [c']; rfl] at k
      exact s_ret e_c (k.go e1)
    · have c' : heatsB h = true := by simpa using c
      have h1 := e1.k _ _ h0 nt_ins
      refine s_when (b := decide ((if h > 0 then (2 : Int) else 0) < g)) (t_test (e_op (e_fld e_var h1 T.c_Label T.n_Label_gentle labF_gentle)
        (e_ifx (v := .int (if h > 0 then 2 else 0)) (t_test (e_op (e_fld e_var h1 T.c_Label T.n_Label_heat labF_heat) e_c rv_i0)) (fun c => e_is e_c (by rw [if_pos (of_decide_eq_true c)])) (fun c => e_is e_c (by rw [if_neg (of_decide_eq_false c)]))) rv_i0)) (fun c2 H2 e2 => ?_) fun c2 H2 e2 => ?_
      · rw [show allowedB h g b d i = false by unfold allowedB; rw [c', c2]; rfl] at k
        exact s_ret e_c (k.go (e1.trans e2))
      · have h2 := e2.k _ _ h1 nt_ins
        rw [show allowedB h g b d i = (decide (0 ≤ b) && decide (b ≤ 2) && (decide (0 ≤ d) && decide (d ≤ 2) && (decide (0 ≤ i) && decide (i ≤ 3)))) by unfold allowedB; rw [c', c2]; rfl] at k
        exact s_ret (e_and (e_chain e_c (e_fld e_var h2 T.c_Label T.n_Label_bleach labF_bleach) e_c) fun _ => e_and (e_chain e_c (e_fld e_var h2 T.c_Label T.n_Label_dry labF_dry) e_c) fun _ => e_chain e_c (e_fld e_var h2 T.c_Label T.n_Label_iron labF_iron) e_c) (k.go (e1.trans e2))
theorem ok_signs (T : Txt K mg) : C8.Cal P w K mg base 1 "signs_of" spSigns [] := by
  have nd := (C8.fnScope_by sc_signs_of).nd
  refine mkCal1 T.d_signs_of T.m_signs_of (fun _ _ _ _ _ _ us hl => match us, hl with | [_], _ => rfl) sc_signs_of ?len fun cdv A outer s H vs Q E hr h => ⟨_, (pss_cons (ps_set (i := 1) nd rfl (Or.inl rfl) (pe_bm PySem.F.plainAttrs_str PySem.F.slot_str_zfill PySem.F.type_str_zfill mt_zfill (pe_callTy call_str_int (by rfl) T.b_str (by decide +kernel) (pa_cons (pe_fld (pv 0) rfl) pa_nil)) (pa_cons pe_int pa_nil)))
      (pss_cons (ps_set (i := 2) nd rfl (Or.inl rfl) (pe_op op_mulStr pe_str (pe_fld (pv 0) rfl)))
      (pss_cons (ps_set (i := 3) nd rfl (Or.inl rfl) (pe_fld (pv 0) rfl))
      (pss_cons (ps_set (i := 4) nd rfl (Or.inl rfl) (pe_fld (pv 0) rfl))
      (pss_cons (ps_set (i := 5) nd rfl (Or.inl rfl) (pe_fld (pv 0) rfl))
      (pss_cons (ps_set (i := 6) nd rfl (Or.inl rfl) (pe_joined (PJ.cons pe_str (PJ.cons (pe_fmt (pv 1)) (PJ.cons (pe_fmt (pv 2)) (PJ.cons pe_str (PJ.cons (pe_fmt (pv 3)) (PJ.cons pe_str (PJ.cons (pe_fmt (pv 4)) (PJ.cons pe_str (PJ.cons (pe_fmt (pv 5)) PJ.nil)))))))))))
      (pss_one (ps_ret (pe_lc (own := [("letter", 7)]) rfl nd (pi_str (pv 6)) (blkOk_by (own := [("letter", 7)]) (N := N_signs_of) (sc := C8.fnScope s_signs_of) (by decide +kernel)) (fun _ _ _ _ _ => (pg_name (i := 7) nd rfl (Or.inl rfl))) (fun _ _ _ _ _ => pts_nil) (fun _ _ _ _ _ => (pe_callB call_ord (by rfl) T.b_ord (by decide +kernel) (pa_cons (pv 7) pa_nil)))))))))))), ?body⟩
  case len =>
    rintro vs H Q E ⟨_, _, rfl, _⟩
    rfl
  case body =>
    obtain ⟨a, x, rfl, ⟨dx, h0⟩, ok, k⟩ := h
    obtain ⟨o1, o2, o3, o4, o5, _⟩ := ok_parts ok
    refine s_asg (v := .str (Txt.zfill (dgS x.wash) 2)) (e_bm (e_cb (z := .str (dgS x.wash)) (a_cons (e_fld e_var h0 T.c_Label T.n_Label_heat labF_heat) a_nil) (by
      rintro _ H1 e1 ⟨_, rfl, rfl⟩ H2 e2 Q q
      exact ⟨_, rfl, small_log (by omega), q H2 (Xt.refl _)⟩)) (fun _ _ => rfl) (a_cons e_c a_nil) (by
      rintro _ H1 e1 ⟨_, rfl, rfl⟩ Q q
      exact ⟨_, _, rfl, rfl, rfl, q⟩)) fun H1 e1 => ?_
    have h1 := e1.k _ _ h0 nt_ins
    refine s_asg (v := .str ⟨(List.replicate x.gentle 95).toArray⟩) (e_op e_c (e_fld e_var h1 T.c_Label T.n_Label_gentle labF_gentle) fun H2 _ Q q => ⟨95, x.gentle, rfl, rfl, by omega, q⟩) fun H2 e2 => ?_
    have h2 := e2.k _ _ h1 nt_ins
    refine s_asg (e_fld e_var h2 T.c_Label T.n_Label_bleach labF_bleach) fun H3 e3 => ?_
    have h3 := e3.k _ _ h2 nt_ins
    refine s_asg (e_fld e_var h3 T.c_Label T.n_Label_dry labF_dry) fun H4 e4 => ?_
    have h4 := e4.k _ _ h3 nt_ins
    refine s_asg (e_fld e_var h4 T.c_Label T.n_Label_iron labF_iron) fun H5 e5 => ?_
    have e15 := (((e1.trans e2).trans e3).trans e4).trans e5
    have cps : (Str.empty ++ Str.ofString "W" ++ Txt.zfill (dgS x.wash) 2 ++ ⟨(List.replicate x.gentle 95).toArray⟩ ++ Str.ofString "B" ++ dgS x.bleach ++ Str.ofString "D" ++ dgS x.dry ++ Str.ofString "I" ++ dgS x.iron : Str).cps.toList = Kyk1.told x := by
      have c1 : (Str.ofString "W").cps = #[87] := by decide
      have c2 : (Str.ofString "B").cps = #[66] := by decide
      have c3 : (Str.ofString "D").cps = #[68] := by decide
      have c4 : (Str.ofString "I").cps = #[73] := by decide
      have c5 : Str.empty.cps = #[] := rfl
      simp [Kyk1.told, app_cps, heatS_of o1, dgS_of (show x.bleach ≤ 3 by omega), dgS_of (show x.dry ≤ 3 by omega), dgS_of o5, c1, c2, c3, c4, c5]
    have size : (Kyk1.told x).length ≤ 100 := by
      have := (told_facts ok).1
      omega
    have hz : ∀ s : Str, s.cps.toList = Kyk1.told x → s.length ≤ 1000 := fun s hs => by
      have : s.length = (Kyk1.told x).length := by rw [← hs]; exact Array.length_toList.symm
      omega
    refine s_asg (e_joined (j_e e_c (j_e (e_fmtS e_var (by
      show (Txt.zfill (dgS x.wash) 2).cps.size ≤ 1000
      rw [heatS_of o1]
      show 2 ≤ 1000
      decide)) (j_e (e_fmtS e_var (by
      show (List.replicate x.gentle 95).toArray.size ≤ 1000
      rw [List.size_toArray, List.length_replicate]
      omega)) (j_e e_c (j_e (e_fmtN e_var (by omega)) (j_e e_c (j_e (e_fmtN e_var (by omega)) (j_e e_c (j_e (e_fmtN e_var (by omega)) j_nil))))))))) (hz _ cps)) fun H6 e6 => ?_
    revert cps
    generalize (Str.empty ++ Str.ofString "W" ++ Txt.zfill (dgS x.wash) 2 ++ ⟨(List.replicate x.gentle 95).toArray⟩ ++ Str.ofString "B" ++ dgS x.bleach ++ Str.ofString "D" ++ dgS x.dry ++ Str.ofString "I" ++ dgS x.iron : Str) = out
    intro cps
    refine s_retN (o := .lst ((Kyk1.told x).map nV)) ?_ (k.go (e15.trans e6))
    refine n_map (Kyk1.told x) nV (w_str (z := out) e_var) (by rw [← cps]; exact Array.length_toList.symm) (by have := congrArg List.length cps; rw [Array.length_toList] at this; omega) fun i y H1 e1 hy => ⟨rfl, e_ord (e_var ?_)⟩
    have : out.cps[i]? = some y := by rw [← Array.getElem?_toList, cps]; exact hy
    show some (out.cps[i]?.map fun c => V.str ⟨#[c]⟩) = _
    rw [this] <;> rfl
/-! reading a label -/
theorem at_nat {t : List Nat} {j : Nat} (hj : j < t.length) : atI (t.map nV) (j : Int) = some (nV (t.getD j 0)) := atI_nat (by
  rw [List.getElem?_map, List.getElem?_eq_getElem hj, List.getD_eq_getElem?_getD, List.getElem?_eq_getElem hj]
  rfl)
theorem at_neg {t : List Nat} {j : Nat} (h0 : 0 < j) (hj : j ≤ t.length) : atI (t.map nV) (-(j : Int)) = some (nV (t.getD (t.length - j) 0)) := by
  have e : ixN (t.map nV).length (-(j : Int)) = some (t.length - j) := by
    unfold ixN
    rw [List.length_map, if_neg (by omega), if_pos (by omega)]
    congr 1
    omega
  unfold atI
  rw [e]
  show (t.map nV)[t.length - j]? = _
  rw [List.getElem?_map, List.getElem?_eq_getElem (by omega), List.getD_eq_getElem?_getD, List.getElem?_eq_getElem (by omega)]
  rfl
theorem count_ints (t : List Nat) (c : Nat) : (t.map fun n : Nat => (n : Int)).count (c : Int) = t.count c := by
  induction t with
  | nil => rfl
  | cons n r ih =>
    rw [List.map_cons, List.count_cons, List.count_cons, ih]
    congr 1
    by_cases h : n = c
    · subst h; simp
    · rw [beq_eq_false_iff_ne.mpr h, beq_eq_false_iff_ne.mpr (by omega)]
theorem inj_ints {t u : List Nat} (h : t.map (fun n : Nat => (n : Int)) = u.map (fun n : Nat => (n : Int))) : t = u := by
  have := congrArg (List.map Int.toNat) h
  simpa [List.map_map, Function.comp_def] using this
theorem ty_list {K : PySem.W.Frag} {H : Hp} {a : Addr} {xs : List V} (h : SqL K H a xs) : tyV K "list" (.ref a) H := Or.inl ⟨rfl, xs, h⟩
def spRead : Sp := fun vs H Q _ => ∃ a t, vs = [.ref a] ∧ H a = some (.lst (t.map nV)) ∧ (∀ n ∈ t, n < 256) ∧ t.length ≤ 200 ∧
  (Kyk1.read t = none → RetV .non H Q) ∧ (∀ x, Kyk1.read t = some x → ∀ p H2, Nw H p → Xt H H2 → LabAt H2 p x → Q (.ref p) H2)
theorem ok_read (T : Txt K mg) (c_digit_of : C8.Cal P w K mg base 1 "digit_of" spDigit []) (c_is_allowed : C8.Cal P w K mg base 1 "is_allowed" spAllowed []) (c_signs_of : C8.Cal P w K mg base 1 "signs_of" spSigns []) (m_Label : C8.Mak P w K mg base 1 "Label" cLabel spLabelI []) :
    C8.Cal P w K mg base 3 "read_label" spRead [] := by
  have nd := (C8.fnScope_by sc_read_label).nd
  refine mkCal1 T.d_read_label T.m_read_label (fun _ _ _ _ _ _ us hl => match us, hl with | [_], _ => rfl) sc_read_label ?len fun cdv A outer s H vs Q E hr h => ⟨_, (pss_cons (ps_set (i := 1) nd rfl (Or.inl rfl) (pe_bm PySem.F.plainAttrs_list PySem.F.slot_list_count PySem.F.type_list_count mt_lcount (pv 0) (pa_cons (pe_callB call_ord (by rfl) T.b_ord (by decide +kernel) (pa_cons pe_str pa_nil)) pa_nil)))
      (pss_cons (ps_if (pt_cmpR op_ne (pe_callB call_len_seq (by rfl) T.b_len (by decide +kernel) (pa_cons (pv 0) pa_nil)) (pe_op op_add (C8.pe_gc rfl T.g_SIGNS_OF_ALL) (pv 1)) (nomark _)) (pss_one (ps_ret pe_non)) pss_nil)
      (pss_cons (ps_set (i := 2) nd rfl (Or.inl rfl) (pe_op op_add (pe_op op_mul pe_int (C8.pe_c c_digit_of hr (by decide) rfl (pa_cons (pe_ix ix_list (pv 0) pe_int (fun _ _ => rfl)) pa_nil))) (C8.pe_c c_digit_of hr (by decide) rfl (pa_cons (pe_ix ix_list (pv 0) pe_int (fun _ _ => rfl)) pa_nil))))
      (pss_cons (ps_set (i := 3) nd rfl (Or.inl rfl) (C8.pe_mk m_Label hr (by decide) rfl (pa_cons (pv 2) (pa_cons (pv 1) (pa_cons (C8.pe_c c_digit_of hr (by decide) rfl (pa_cons (pe_ix ix_list (pv 0) (pe_un un_neg pe_int) (fun _ _ => rfl)) pa_nil)) (pa_cons (C8.pe_c c_digit_of hr (by decide) rfl (pa_cons (pe_ix ix_list (pv 0) (pe_un un_neg pe_int) (fun _ _ => rfl)) pa_nil)) (pa_cons (C8.pe_c c_digit_of hr (by decide) rfl (pa_cons (pe_ix ix_list (pv 0) (pe_un un_neg pe_int) (fun _ _ => rfl)) pa_nil)) pa_nil)))))))
      (pss_cons (ps_if (PW.pt (pw_or (pt_not (pt_val (C8.pe_c c_is_allowed hr (by decide) rfl (pa_cons (pv 3) pa_nil)))) (pw_or1 (pt_cmpR (op_neD hr.units) (C8.pe_c c_signs_of hr (by decide) rfl (pa_cons (pv 3) pa_nil)) (pv 0) (nomark _))))) (pss_one (ps_ret pe_non)) pss_nil)
      (pss_one (ps_ret (pv 3)))))))), ?body⟩
  case len =>
    rintro vs H Q E ⟨_, _, rfl, _⟩
    rfl
  case body =>
    obtain ⟨a, t, rfl, h0, hb, hlen, kN, kS⟩ := h
    have bound : ∀ j, t.getD j 0 < 256 := fun j => by
      rw [List.getD_eq_getElem?_getD]
      cases e : t[j]? with
      | none => decide
      | some n => exact hb n (List.mem_of_getElem? e)
    have q0 : SqL K H a (t.map nV) := SqL.of h0
    refine s_asg (v := nV (t.count 95)) (e_bm (x := .ref a) e_var (fun H1 e1 => ty_list (sq_mono e1 q0)) (a_cons (e_ord (c := 95) e_c) a_nil) (by
      rintro _ H1 e1 ⟨_, rfl, rfl⟩ Q q
      refine ⟨a, t.map fun n : Nat => (n : Int), 95, rfl, rfl, by rw [List.map_map]; exact sq_mono e1 q0, ?_⟩
      rw [show (95 : Int) = ((95 : Nat) : Int) from rfl, count_ints]
      exact q)) fun H1 e1 => ?_
    refine s_when (b := !decide (V.int ((t.map nV).length : Int) = V.int (9 + (t.count 95 : Int)))) (t_test (e_op (e_len e_var (sq_mono e1 q0)) (e_op e_c e_var rv_i0) rv_ne)) (fun c H2 e2 => ?_) fun c H2 e2 => ?_
    · refine s_ret e_c ((kN ?_).go (e1.trans e2))
      cases h : Kyk1.read t with
      | none => rfl
      | some x =>
        obtain ⟨ok, rfl⟩ := told_read h
        obtain ⟨f1, f2, _⟩ := told_facts ok
        rw [List.length_map, f1, f2] at c
        simp at c
    · have hl : t.length = 9 + t.count 95 := by
        simp only [List.length_map, Bool.not_eq_false', decide_eq_true_eq, V.int.injEq] at c
        omega
      have h2 := (e1.trans e2).k _ _ h0 nt_lst
      have dig : ∀ {te : TE} {σ : L2.St} {H3 : Hp} {n : Int}, Ev te σ H3 (.int n) → Ev (tCall spDigit [] C8.E0 (tCons te tNil)) σ H3 (.int (n - 48)) := fun {te σ H3 n} h => e_call (a_cons h a_nil) (by
        rintro _ H4 e4 ⟨_, rfl, rfl⟩ Q q
        exact ⟨n, rfl, q⟩)
      refine s_asg (v := .int (10 * ((t.getD 1 0 : Nat) - 48 : Int) + ((t.getD 2 0 : Nat) - 48 : Int))) (e_op (e_op e_c (dig (e_op e_var e_c (rv_l (SqL.of h2) (at_nat (j := 1) (by omega))))) (rv_i (.inl (by decide)))) (dig (e_op e_var e_c (rv_l (SqL.of h2) (at_nat (j := 2) (by omega))))) rv_i0) fun H3 e3 => ?_
      have h3 := e3.k _ _ h2 nt_lst
      refine s_asgM (C := cLabel) (fs := labF (10 * ((t.getD 1 0 : Nat) - 48 : Int) + ((t.getD 2 0 : Nat) - 48 : Int)) (t.count 95) ((t.getD (t.length - 5) 0 : Nat) - 48) ((t.getD (t.length - 3) 0 : Nat) - 48) ((t.getD (t.length - 1) 0 : Nat) - 48))
        (m_make (a_cons e_var (a_cons e_var (a_cons (dig (e_op e_var (e_un e_c) (rv_l (SqL.of h3) (at_neg (j := 5) (by decide) (by omega))))) (a_cons (dig (e_op e_var (e_un e_c) (rv_l (SqL.of h3) (at_neg (j := 3) (by decide) (by omega))))) (a_cons (dig (e_op e_var (e_un e_c) (rv_l (SqL.of h3) (at_neg (j := 1) (by decide) (by omega))))) a_nil))))) (by
          rintro _ H4 e4 ⟨_, rfl, _, rfl, _, rfl, _, rfl, _, rfl, rfl⟩ p H5 Q e5 q
          exact ⟨_, _, _, _, _, q⟩)) fun p dx H4 np e4 hp => ?_
      have h4 := e4.k _ _ h3 nt_lst
      have facts : ∀ x, Kyk1.read t = some x → labF (10 * ((t.getD 1 0 : Nat) - 48 : Int) + ((t.getD 2 0 : Nat) - 48 : Int)) (t.count 95) ((t.getD (t.length - 5) 0 : Nat) - 48) ((t.getD (t.length - 3) 0 : Nat) - 48) ((t.getD (t.length - 1) 0 : Nat) - 48) = labFx x ∧ Kyk1.okLabel x = true ∧ Kyk1.told x = t := fun x hx => by
        obtain ⟨ok, ht⟩ := told_read hx
        obtain ⟨f1, f2, f3, f4, f5, f6, f7, f8⟩ := told_facts ok
        rw [ht] at f1 f2 f3 f4 f5 f6 f7 f8
        refine ⟨?_, ok, ht⟩
        rw [show t.length - 5 = 4 + x.gentle by omega, show t.length - 3 = 6 + x.gentle by omega, show t.length - 1 = 8 + x.gentle by omega, f6, f7, f8, f2]
        unfold labFx
        congr 1 <;> omega
      have hg : (0 : Int) ≤ (t.count 95 : Nat) := by omega
      generalize (10 * ((t.getD 1 0 : Nat) - 48 : Int) + ((t.getD 2 0 : Nat) - 48 : Int)) = vh at hp facts
      generalize ((t.count 95 : Nat) : Int) = vg at hp facts hg
      generalize ((t.getD (t.length - 5) 0 : Nat) - 48 : Int) = vb at hp facts
      generalize ((t.getD (t.length - 3) 0 : Nat) - 48 : Int) = vd at hp facts
      generalize ((t.getD (t.length - 1) 0 : Nat) - 48 : Int) = vi at hp facts
      have e14 : Xt H H4 := ((e1.trans e2).trans e3).trans e4
      have call : Ev (tCall spAllowed [] C8.E0 (tCons (tVar 3) tNil)) [some (.ref a), some (.int vg), some (.int vh), some (.ref p)] H4 (.bl (allowedB vh vg vb vd vi)) := e_call (a_cons e_var a_nil) (by
        rintro _ H5 e5 ⟨_, rfl, rfl⟩ Q q
        exact ⟨p, dx, vh, vg, vb, vd, vi, rfl, e5.k _ _ hp nt_ins, q⟩)
      cases al : allowedB vh vg vb vd vi with
      | false =>
        rw [al] at call
        refine s_when (b := true) (t_or (a := true) (t_not (t_b call)) (fun z => by cases z) (b := false)) (fun _ H5 e5 => ?_) (fun z => by cases z)
        refine s_ret e_c ((kN ?_).go (e14.trans e5))
        cases h : Kyk1.read t with
        | none => rfl
        | some x =>
          obtain ⟨g1, g2, g3⟩ := facts x h
          have g4 := allowed_of g2
          simp only [labFx, labF, List.cons.injEq, Prod.mk.injEq, V.int.injEq, true_and, and_true] at g1
          obtain ⟨rfl, rfl, rfl, rfl, rfl⟩ := g1
          rw [al] at g4
          cases g4
      | true =>
        rw [al] at call
        obtain ⟨x, ok, rfl, rfl, rfl, rfl, rfl⟩ := of_allowed hg al
        have back : Kyk1.read (Kyk1.told x) = some x := read_told ok
        refine s_when (b := !decide (Kyk1.told x = t)) (t_is (t_or (a := false) (b := !decide (Kyk1.told x = t)) (t_not (t_b call)) fun _ => t_test (e_op1 (o := .lst ((Kyk1.told x).map nV)) nt_lst (n_call (a_cons e_var a_nil) (by
          rintro _ H5 e5 ⟨_, rfl, rfl⟩ Q q
          exact ⟨p, x, rfl, ⟨dx, e5.k _ _ hp nt_ins⟩, ok, q⟩)) e_var (fun p' H5 e5 hp' H6 e6 Q q => by
            refine ⟨.list ((Kyk1.told x).map fun n : Nat => .int (n : Int)), .list (t.map fun n : Nat => .int (n : Int)), ?_, ?_, ?_, ?_, ?_⟩
            · have := dp_ints (K := K) (H := H6) ((Kyk1.told x).map fun n : Nat => (n : Int))
              rw [List.map_map, List.map_map] at this
              exact .lst (SqL.of (e6.k _ _ hp' nt_lst)) this
            · have := dp_ints (K := K) (H := H6) (t.map fun n : Nat => (n : Int))
              rw [List.map_map, List.map_map] at this
              exact .lst (SqL.of ((e5.trans e6).k _ _ h4 nt_lst)) this
            · have := shaped_ints ((Kyk1.told x).map fun n : Nat => (n : Int))
              rw [List.map_map] at this
              exact this
            · have := shaped_ints (t.map fun n : Nat => (n : Int))
              rw [List.map_map] at this
              exact this
            · have := eqv_ints ((Kyk1.told x).map fun n : Nat => (n : Int)) (t.map fun n : Nat => (n : Int))
              rw [List.map_map, List.map_map] at this
              have e : decide ((Kyk1.told x).map (fun n : Nat => (n : Int)) = t.map fun n : Nat => (n : Int)) = decide (Kyk1.told x = t) := by
                by_cases c : Kyk1.told x = t
                · rw [c]; simp
                · rw [decide_eq_false c, decide_eq_false fun z => c (inj_ints z)]
              rw [e] at this
              show Q (.bl (!PyData.eqv _ _)) H6
              rw [show PyData.eqv (.list ((Kyk1.told x).map fun n : Nat => .int (n : Int))) (.list (t.map fun n : Nat => .int (n : Int))) = decide (Kyk1.told x = t) from this]
              exact q))) (Bool.false_or _)) (fun c2 H5 e5 => ?_) (fun c2 H5 e5 => ?_)
        · refine s_ret e_c ((kN ?_).go (e14.trans e5))
          cases h : Kyk1.read t with
          | none => rfl
          | some y =>
            obtain ⟨g1, g2, g3⟩ := facts y h
            have : x = y := by
              simp only [labFx, labF, List.cons.injEq, Prod.mk.injEq, V.int.injEq, true_and, and_true] at g1
              obtain ⟨h1, h2, h3, h4, h5⟩ := g1
              exact labs_inj (by unfold labs; congr 1; omega; congr 1; omega; congr 1; omega; congr 1; omega; congr 1; omega)
            subst this
            rw [g3] at c2
            simp at c2
        · have ht : Kyk1.told x = t := by simpa using c2
          subst ht
          refine s_ret (v := .ref p) e_var fun H6 e6 => ?_
          exact kS x back p H6 (.back ((e1.trans e2).trans e3) np) ((e14.trans e5).trans e6) ⟨dx, (e5.trans e6).k _ _ hp nt_ins⟩
end
end Wash
/-! Things, and the programs that wash them. -/
namespace Wash
open PySem PySem.Spec PyProof.Rows L2
def thgF (o : Int) (lab : V) (need colour runs weight place : Int) : List (Str × V) := [("order", .int o), ("label", lab), ("need", .int need), ("colour", .int colour), ("runs", .int runs), ("weight", .int weight), ("place", .int place)]
section
variable {o need colour runs weight place : Int} {lab : V}
theorem thgF_order : (thgF o lab need colour runs weight place).lookup (Str.ofString "order") = some (.int o) := rfl
theorem thgF_label : (thgF o lab need colour runs weight place).lookup (Str.ofString "label") = some lab := rfl
theorem thgF_need : (thgF o lab need colour runs weight place).lookup (Str.ofString "need") = some (.int need) := rfl
theorem thgF_colour : (thgF o lab need colour runs weight place).lookup (Str.ofString "colour") = some (.int colour) := rfl
theorem thgF_runs : (thgF o lab need colour runs weight place).lookup (Str.ofString "runs") = some (.int runs) := rfl
theorem thgF_weight : (thgF o lab need colour runs weight place).lookup (Str.ofString "weight") = some (.int weight) := rfl
theorem thgF_place : (thgF o lab need colour runs weight place).lookup (Str.ofString "place") = some (.int place) := rfl
end
def rN (b : Bool) : Nat := if b then 1 else 0
def thgFx (y : Kyk.Item) (l : Addr) : List (Str × V) := thgF y.order (.ref l) y.x.need y.x.colour (rN y.x.runs) y.w y.place
/-- a thing of the laundry -/
def ThgAt (H : Hp) (a : Addr) (y : Kyk.Item) : Prop := ∃ dx l, H a = some (.ins cThing dx (thgFx y l)) ∧ LabAt H l y.x.label
theorem ThgAt.mono {H H' : Hp} {a : Addr} {y : Kyk.Item} (e : Xt H H') (h : ThgAt H a y) : ThgAt H' a y := let ⟨dx, l, q, z⟩ := h; ⟨dx, l, e.k _ _ q nt_ins, z.mono e⟩
def Things (H : Hp) (as : List Addr) (ys : List Kyk.Item) : Prop := as.length = ys.length ∧ ∀ (i : Nat) a y, as[i]? = some a → ys[i]? = some y → ThgAt H a y
theorem Things.mono {H H' : Hp} {as : List Addr} {ys : List Kyk.Item} (e : Xt H H') (h : Things H as ys) : Things H' as ys := ⟨h.1, fun i a y h1 h2 => (h.2 i a y h1 h2).mono e⟩
theorem get_ref {α : Type} {as : List Addr} {ys : List α} {i : Nat} {y : α} (hl : as.length = ys.length) (hy : ys[i]? = some y) : ∃ a, as[i]? = some a ∧ (as.map V.ref)[i]? = some (.ref a) := by
  have hi := (List.getElem?_eq_some_iff.mp hy).1
  exact ⟨as[i]'(by omega), List.getElem?_eq_getElem (by omega), by rw [List.getElem?_map, List.getElem?_eq_getElem (by omega)] <;> rfl⟩
section
variable {K : PySem.W.Frag} {σ : L2.St} {H : Hp} {te ta tb : TE} {z : V}
theorem map_int (l : List Nat) : (l.map fun n : Nat => (n : Int)).map V.int = l.map nV := by rw [List.map_map]; rfl
theorem e_max {l : List Nat} (h : EvN te σ H (.lst (l.map nV))) (hne : l ≠ []) : Ev (tCB (rMax K) (tCons te tNil)) σ H (nV (maxN l)) := e_cb (a_consN nt_lst h a_nil) (by
  rintro _ H1 e1 ⟨p, _, rfl, _, hp, rfl⟩ H2 e2 Q q
  refine ⟨p, l.map fun n : Nat => (n : Int), rfl, by rw [map_int]; exact SqL.of (e2.k _ _ hp nt_lst), by rw [List.length_map]; exact List.length_pos_iff.mpr hne, fun m hm hle => ?_⟩
  obtain ⟨n, hn, rfl⟩ := List.mem_map.mp hm
  rw [show n = maxN l from is_max hn fun y hy => by have := hle y (List.mem_map.mpr ⟨y, hy, rfl⟩); omega]
  exact q H2 (Xt.refl _))
theorem e_min {l : List Nat} (k : Nat) (h : EvN te σ H (.lst (l.map nV))) (hne : l ≠ []) (hk : ∀ y ∈ l, y ≤ k) : Ev (tCB (rMin K) (tCons te tNil)) σ H (nV (minN k l)) := e_cb (a_consN nt_lst h a_nil) (by
  rintro _ H1 e1 ⟨p, _, rfl, _, hp, rfl⟩ H2 e2 Q q
  refine ⟨p, l.map fun n : Nat => (n : Int), rfl, by rw [map_int]; exact SqL.of (e2.k _ _ hp nt_lst), by rw [List.length_map]; exact List.length_pos_iff.mpr hne, fun m hm hle => ?_⟩
  obtain ⟨n, hn, rfl⟩ := List.mem_map.mp hm
  rw [show n = minN k l from is_min hn (fun y hy => by have := hle y (List.mem_map.mpr ⟨y, hy, rfl⟩); omega) hk]
  exact q H2 (Xt.refl _))
theorem e_sumN {l : List Nat} (h : EvN te σ H (.lst (l.map nV))) : Ev (tCB (rSum K) (tCons te tNil)) σ H (.int (l.map fun n : Nat => (n : Int)).sum) := e_cb (a_consN nt_lst h a_nil) (by
  rintro _ H1 e1 ⟨p, _, rfl, _, hp, rfl⟩ H2 e2 Q q
  exact ⟨p, l.map fun n : Nat => (n : Int), rfl, by rw [map_int]; exact SqL.of (e2.k _ _ hp nt_lst), q H2 (Xt.refl _)⟩)
theorem e_allN {l : List Bool} (h : EvN te σ H (.lst (l.map V.bl))) : Ev (tCB (rAll K) (tCons te tNil)) σ H (.bl (l.all id)) := e_cb (a_consN nt_lst h a_nil) (by
  rintro _ H1 e1 ⟨p, _, rfl, _, hp, rfl⟩ H2 e2 Q q
  exact ⟨p, l, rfl, SqL.of (e2.k _ _ hp nt_lst), q H2 (Xt.refl _)⟩)
theorem e_anyN {l : List Bool} (h : EvN te σ H (.lst (l.map V.bl))) : Ev (tCB (rAny K) (tCons te tNil)) σ H (.bl (l.any id)) := e_cb (a_consN nt_lst h a_nil) (by
  rintro _ H1 e1 ⟨p, _, rfl, _, hp, rfl⟩ H2 e2 Q q
  exact ⟨p, l, rfl, SqL.of (e2.k _ _ hp nt_lst), q H2 (Xt.refl _)⟩)
theorem cast_sum : ∀ l : List Nat, (l.map fun n : Nat => (n : Int)).sum = (l.sum : Nat)
  | [] => rfl
  | a :: r => by
    rw [List.map_cons, List.sum_cons, List.sum_cons, cast_sum r]
    omega
end
section
variable {P : Program} {w : World} {K : PySem.W.Frag} {mg : Str → Option Value} {base : Heap}
def spThingI : Sp := fun vs H Q _ => ∃ (o need colour runs weight : Int) (lab : V), spFill cThing [.int o, lab, .int need, .int colour, .int runs, .int weight] (thgF o lab need colour runs weight 0) vs H Q
theorem ok_Thing (T : Txt K mg) : C8.Mak P w K mg base 1 "Thing" cThing spThingI [] := by
  have nd := (C8.fnScope_by sc_Thing_init).nd
  refine mkMak T.m_Thing T.k_Thing (fun _ _ _ _ _ _ us hl => match us, hl with | [_, _, _, _, _, _, _], _ => rfl) sc_Thing_init ?len fun f cdv A outer s H vs Q E hr h => ⟨_, (pss_cons (ps_fld (pv 0) (pv 1) rfl)
      (pss_cons (ps_fld (pv 0) (pv 2) rfl)
      (pss_cons (ps_fld (pv 0) (pv 3) rfl)
      (pss_cons (ps_fld (pv 0) (pv 4) rfl)
      (pss_cons (ps_fld (pv 0) (pv 5) rfl)
      (pss_cons (ps_fld (pv 0) (pv 6) rfl)
      (pss_one (ps_fld (pv 0) (C8.pe_gc rfl T.g_UNWASHED) rfl)))))))), ?body⟩
  case len =>
    rintro vs H Q E ⟨_, _, _, _, _, _, p, dx, rfl, _⟩
    rfl
  case body =>
    obtain ⟨o, need, colour, runs, weight, lab, p, dx, rfl, h0, k⟩ := h
    refine s_fld e_var e_var h0 T.c_Thing T.n_Thing_order (by decide) fun H1 b1 h1 => ?_
    refine s_fld e_var e_var h1 T.c_Thing T.n_Thing_label (by show 1 < 1000; decide) fun H2 b2 h2 => ?_
    refine s_fld e_var e_var h2 T.c_Thing T.n_Thing_need (by show 2 < 1000; decide) fun H3 b3 h3 => ?_
    refine s_fld e_var e_var h3 T.c_Thing T.n_Thing_colour (by show 3 < 1000; decide) fun H4 b4 h4 => ?_
    refine s_fld e_var e_var h4 T.c_Thing T.n_Thing_runs (by show 4 < 1000; decide) fun H5 b5 h5 => ?_
    refine s_fld e_var e_var h5 T.c_Thing T.n_Thing_weight (by show 5 < 1000; decide) fun H6 b6 h6 => ?_
    refine s_fldL e_c e_var h6 T.c_Thing T.n_Thing_place (by show 6 < 1000; decide) fun H7 b7 h7 => ?_
    exact k H7 ((((((b1.trans b2).trans b3).trans b4).trans b5).trans b6).trans b7) (h7.trans rfl)
def inRangeB (need colour runs weight : Int) : Bool := heatsB need && !decide (9 < colour) && !decide (1 < runs) && (decide (1 ≤ weight) && decide (weight ≤ 20000))
def spInRange : Sp := fun vs H Q _ => ∃ a dx o lab need colour runs weight place, vs = [.ref a] ∧ H a = some (.ins cThing dx (thgF o lab need colour runs weight place)) ∧ RetV (.bl (inRangeB need colour runs weight)) H Q
theorem ok_inRange (T : Txt K mg) : C8.Cal P w K mg base 1 "is_in_range" spInRange [] := by
  have nd := (C8.fnScope_by sc_is_in_range).nd
  refine mkCal1 T.d_is_in_range T.m_is_in_range (fun _ _ _ _ _ _ us hl => match us, hl with | [_], _ => rfl) sc_is_in_range ?len fun cdv A outer s H vs Q E hr h => ⟨_, (pss_cons (ps_if (PW.pt (pw_or (pt_cmpR op_notIn_seq (pe_fld (pv 0) rfl) (C8.pe_gc rfl T.g_LABEL_HEATS) (by rfl)) (pw_or (pt_cmpR op_gt (pe_fld (pv 0) rfl) (C8.pe_gc rfl T.g_MOST_COLOUR) (nomark _)) (pw_or1 (pt_cmpR op_gt (pe_fld (pv 0) rfl) pe_int (nomark _)))))) (pss_one (ps_ret pe_bl)) pss_nil)
      (pss_one (ps_ret (pe_chain op_le op_le pe_int (pe_fld (pv 0) rfl) (C8.pe_gc rfl T.g_MOST_WEIGHT))))), ?body⟩
  case len =>
    rintro vs H Q E ⟨_, _, _, _, _, _, _, _, _, rfl, _⟩
    rfl
  case body =>
    obtain ⟨a, dx, o, lab, need, colour, runs, weight, place, rfl, h0, k⟩ := h
    refine s_when (b := !heatsB need || (decide (9 < colour) || decide (1 < runs))) (t_or (t_test (e_op (e_fld e_var h0 T.c_Thing T.n_Thing_need thgF_need) e_c (rv_inT (T.t_LABEL_HEATS H) rfl rfl))) fun _ =>
      t_or (t_test (e_op (e_fld e_var h0 T.c_Thing T.n_Thing_colour thgF_colour) e_c rv_i0)) fun _ => t_test (e_op (e_fld e_var h0 T.c_Thing T.n_Thing_runs thgF_runs) e_c rv_i0)) (fun c H1 e1 => ?_) fun c H1 e1 => ?_
    · rw [show inRangeB need colour runs weight = false by
        unfold inRangeB
        revert c
        cases heatsB need <;> cases decide (9 < colour) <;> cases decide (1 < runs) <;> simp] at k
      exact s_ret e_c (k.go e1)
    · rw [show inRangeB need colour runs weight = (decide (1 ≤ weight) && decide (weight ≤ 20000)) by
        unfold inRangeB
        revert c
        cases heatsB need <;> cases decide (9 < colour) <;> cases decide (1 < runs) <;> simp] at k
      exact s_ret (e_chain e_c (e_fld e_var (e1.k _ _ h0 nt_ins) T.c_Thing T.n_Thing_weight thgF_weight) e_c) (k.go e1)
/-- [thing.field for thing in things] in slot j -/
def progV (p : Kyk1.Program) : List V := [nV p.heat, nV p.gentle, nV p.bleach, nV p.dry]
def spMild : Sp := fun vs H Q _ => ∃ a as ys, vs = [.ref a] ∧ H a = some (.lst (as.map V.ref)) ∧ Things H as ys ∧ ys ≠ [] ∧ ys.length ≤ 10000 ∧ (∀ y ∈ ys, Kyk1.okLabel y.x.label = true) ∧
  match Kyk1.program (ys.map (·.x)) with
  | none => RetV .non H Q
  | some p => RetN (.tup (progV p)) H Q
theorem ok_mild (T : Txt K mg) : C8.Cal P w K mg base 1 "mildest_program" spMild [] := by
  have nd := (C8.fnScope_by sc_mildest_program).nd
  refine mkCal1 T.d_mildest_program T.m_mildest_program (fun _ _ _ _ _ _ us hl => match us, hl with | [_], _ => rfl) sc_mildest_program ?len fun cdv A outer s H vs Q E hr h => ⟨_, (pss_cons (ps_set (i := 1) nd rfl (Or.inr rfl) (pe_callB (cr_max rfl) (by rfl) T.b_max (by decide +kernel) (pa_cons (pe_lc (own := [("thing", 8)]) (te := (tFld K (tVar 8) "need")) (tt := tYes) rfl nd (pi_list (pv 0)) (blkOk_by (own := [("thing", 8)]) (N := N_mildest_program) (sc := C8.fnScope s_mildest_program) (by decide +kernel)) (fun _ _ _ _ _ => (pg_name (i := 8) nd rfl (Or.inl rfl))) (fun _ _ _ _ _ => pts_nil) (fun _ _ _ _ _ => (pe_fld (pv 8) rfl))) pa_nil)))
      (pss_cons (ps_set (i := 2) nd rfl (Or.inr rfl) (pe_callB (cr_min rfl) (by rfl) T.b_min (by decide +kernel) (pa_cons (pe_lc (own := [("thing", 8)]) (te := (tFld K (tFld K (tVar 8) "label") "heat")) (tt := tYes) rfl nd (pi_list (pv 0)) (blkOk_by (own := [("thing", 8)]) (N := N_mildest_program) (sc := C8.fnScope s_mildest_program) (by decide +kernel)) (fun _ _ _ _ _ => (pg_name (i := 8) nd rfl (Or.inl rfl))) (fun _ _ _ _ _ => pts_nil) (fun _ _ _ _ _ => (pe_fld (pe_fld (pv 8) rfl) rfl))) pa_nil)))
      (pss_cons (ps_setLc (i := 3) (own := [("heat", 7)]) (te := (tVar 7)) (tt := (tTest (tChain (rI0 fun i j => .bl (decide (i ≤ j))) (rI0 fun i j => .bl (decide (i ≤ j))) (tVar 1) (tVar 7) (tVar 2)))) rfl nd rfl rfl (sw_true rfl rfl rfl (by decide +kernel)) (pi_tup (C8.pe_gc rfl T.g_PROGRAM_HEATS)) (blkOk_by (own := [("heat", 7)]) (N := N_mildest_program) (sc := C8.fnScope s_mildest_program) (by decide +kernel)) (fun _ _ _ _ _ => (pg_name (i := 7) nd rfl (Or.inl rfl))) (fun _ _ _ _ _ => (pts_one (pt_chain op_le op_le (pv 1) (pv 7) (pv 2)))) (fun _ _ _ _ _ => (pv 7)))
      (pss_cons (ps_if (pt_cmpR op_eq (pe_callB call_len_seq (by rfl) T.b_len (by decide +kernel) (pa_cons (pv 3) pa_nil)) pe_int (nomark _)) (pss_one (ps_ret pe_non)) pss_nil)
      (pss_cons (ps_set (i := 4) nd rfl (Or.inl rfl) (pe_callB (cr_max rfl) (by rfl) T.b_max (by decide +kernel) (pa_cons (pe_lc (own := [("thing", 8)]) (te := (tFld K (tFld K (tVar 8) "label") "gentle")) (tt := tYes) rfl nd (pi_list (pv 0)) (blkOk_by (own := [("thing", 8)]) (N := N_mildest_program) (sc := C8.fnScope s_mildest_program) (by decide +kernel)) (fun _ _ _ _ _ => (pg_name (i := 8) nd rfl (Or.inl rfl))) (fun _ _ _ _ _ => pts_nil) (fun _ _ _ _ _ => (pe_fld (pe_fld (pv 8) rfl) rfl))) pa_nil)))
      (pss_cons (ps_set (i := 5) nd rfl (Or.inl rfl) (pe_callB (cr_min rfl) (by rfl) T.b_min (by decide +kernel) (pa_cons (pe_lc (own := [("thing", 8)]) (te := (tFld K (tFld K (tVar 8) "label") "bleach")) (tt := tYes) rfl nd (pi_list (pv 0)) (blkOk_by (own := [("thing", 8)]) (N := N_mildest_program) (sc := C8.fnScope s_mildest_program) (by decide +kernel)) (fun _ _ _ _ _ => (pg_name (i := 8) nd rfl (Or.inl rfl))) (fun _ _ _ _ _ => pts_nil) (fun _ _ _ _ _ => (pe_fld (pe_fld (pv 8) rfl) rfl))) pa_nil)))
      (pss_cons (ps_set (i := 6) nd rfl (Or.inl rfl) (pe_callB (cr_min rfl) (by rfl) T.b_min (by decide +kernel) (pa_cons (pe_lc (own := [("thing", 8)]) (te := (tFld K (tFld K (tVar 8) "label") "dry")) (tt := tYes) rfl nd (pi_list (pv 0)) (blkOk_by (own := [("thing", 8)]) (N := N_mildest_program) (sc := C8.fnScope s_mildest_program) (by decide +kernel)) (fun _ _ _ _ _ => (pg_name (i := 8) nd rfl (Or.inl rfl))) (fun _ _ _ _ _ => pts_nil) (fun _ _ _ _ _ => (pe_fld (pe_fld (pv 8) rfl) rfl))) pa_nil)))
      (pss_one (ps_ret (pe_tup (pa_cons (pe_ix ix_list (pv 3) pe_int (fun _ _ => rfl)) (pa_cons (pv 4) (pa_cons (pv 5) (pa_cons (pv 6) pa_nil)))))))))))))), ?body⟩
  case len =>
    rintro vs H Q E ⟨_, _, _, rfl, _⟩
    rfl
  case body =>
    obtain ⟨a, as, ys, rfl, h0, th, hne, hlen, ok, k⟩ := h
    have lens : (as.map V.ref).length = ys.length := by rw [List.length_map]; exact th.1
    have ne : ∀ {f : Kyk.Item → Nat}, ys.map f ≠ [] := fun {f} z => hne (List.map_eq_nil_iff.mp z)
    refine s_asg (v := nV (maxN (ys.map fun y => y.x.need))) (e_max (by
      rw [List.map_map]
      refine n_map ys _ (w_list e_var (SqL.of h0)) lens (by omega) fun i y H1 e1 hy => ⟨rfl, ?_⟩
      obtain ⟨b, hb, hr⟩ := get_ref th.1 hy
      obtain ⟨dx, l, ho, hl⟩ := th.2 i b y hb hy
      exact e_fld (e_var (congrArg some hr)) (e1.k _ _ ho nt_ins) T.c_Thing T.n_Thing_need thgF_need) ne) fun H1 e1 => ?_
    have h1 := e1.k _ _ h0 nt_lst
    have th1 := th.mono e1
    refine s_asg (v := nV (minN 95 (ys.map fun y => y.x.label.wash))) (e_min 95 (by
      rw [List.map_map]
      refine n_map ys _ (w_list e_var (SqL.of h1)) lens (by omega) fun i y H2 e2 hy => ⟨rfl, ?_⟩
      obtain ⟨b, hb, hr⟩ := get_ref th.1 hy
      obtain ⟨dx, l, ho, dl, hl⟩ := th1.2 i b y hb hy
      exact e_fld (e_fld (e_var (congrArg some hr)) (e2.k _ _ ho nt_ins) T.c_Thing T.n_Thing_label thgF_label) (e2.k _ _ hl nt_ins) T.c_Label T.n_Label_heat labF_heat) ne (fun z hz => by
        obtain ⟨y, hy, rfl⟩ := List.mem_map.mp hz
        have := (ok_parts (ok y hy)).1
        omega)) fun H2 e2 => ?_
    have h2 := e2.k _ _ h1 nt_lst
    have th2 := th1.mono e2
    refine s_asgN (o := .lst ((fitHeats (ys.map (·.x))).map nV)) (n_lc [30, 40, 60, 95] _ nV (w_tup e_c (T.t_PROGRAM_HEATS H2)) rfl (by decide) fun i y H3 e3 hy => ?_) fun ph H3 np e3 hp => ?_
    · have hx : ((([30, 40, 60, 95] : List Int).map V.int)[i]?) = some (nV y) := by
        rw [show ([30, 40, 60, 95] : List Int).map V.int = ([30, 40, 60, 95] : List Nat).map nV from rfl, List.getElem?_map, hy] <;> rfl
      refine ⟨rfl, t_is (t_test (e_chain e_var (e_var (v := nV y) (congrArg some hx)) e_var)) ?_, fun _ => e_var (congrArg some hx)⟩
      rw [List.map_map, List.map_map, Bool.eq_iff_iff, Bool.and_eq_true, Bool.and_eq_true, decide_eq_true_eq, decide_eq_true_eq, decide_eq_true_eq, decide_eq_true_eq, Int.ofNat_le, Int.ofNat_le]
      rfl
    refine s_when (t_test (e_op (e_len e_var (SqL.of hp)) e_c rv_eq)) (fun c H4 e4 => ?_) fun c H4 e4 => ?_
    · have hf : fitHeats (ys.map (·.x)) = [] := by
        simp only [decide_eq_true_eq, V.int.injEq, List.length_map] at c
        exact List.length_eq_zero_iff.mp (by omega)
      rw [program_eq, hf] at k
      exact s_ret e_c (RetV.go k (((e1.trans e2).trans e3).trans e4))
    · cases hf : fitHeats (ys.map (·.x)) with
      | nil =>
        rw [hf] at c
        simp at c
      | cons ht r =>
        rw [hf] at hp
        rw [program_eq, hf] at k
        have h4 := (e3.trans e4).k _ _ h2 nt_lst
        have th4 := th2.mono (e3.trans e4)
        have hp4 := e4.k _ _ hp nt_lst
        have e14 := ((e1.trans e2).trans e3).trans e4
        refine s_asg (v := nV (maxN (ys.map fun y => y.x.label.gentle))) (e_max (by
          rw [List.map_map]
          refine n_map ys _ (w_list e_var (SqL.of h4)) lens (by omega) fun i y H5 e5 hy => ⟨rfl, ?_⟩
          obtain ⟨b, hb, hr⟩ := get_ref th.1 hy
          obtain ⟨dx, l, ho, dl, hl⟩ := th4.2 i b y hb hy
          exact e_fld (e_fld (e_var (congrArg some hr)) (e5.k _ _ ho nt_ins) T.c_Thing T.n_Thing_label thgF_label) (e5.k _ _ hl nt_ins) T.c_Label T.n_Label_gentle labF_gentle) ne) fun H5 e5 => ?_
        have h5 := e5.k _ _ h4 nt_lst
        have th5 := th4.mono e5
        refine s_asg (v := nV (minN 2 (ys.map fun y => y.x.label.bleach))) (e_min 2 (by
          rw [List.map_map]
          refine n_map ys _ (w_list e_var (SqL.of h5)) lens (by omega) fun i y H6 e6 hy => ⟨rfl, ?_⟩
          obtain ⟨b, hb, hr⟩ := get_ref th.1 hy
          obtain ⟨dx, l, ho, dl, hl⟩ := th5.2 i b y hb hy
          exact e_fld (e_fld (e_var (congrArg some hr)) (e6.k _ _ ho nt_ins) T.c_Thing T.n_Thing_label thgF_label) (e6.k _ _ hl nt_ins) T.c_Label T.n_Label_bleach labF_bleach) ne (fun z hz => by
            obtain ⟨y, hy, rfl⟩ := List.mem_map.mp hz
            exact (ok_parts (ok y hy)).2.2.1)) fun H6 e6 => ?_
        have h6 := e6.k _ _ h5 nt_lst
        have th6 := th5.mono e6
        refine s_asg (v := nV (minN 2 (ys.map fun y => y.x.label.dry))) (e_min 2 (by
          rw [List.map_map]
          refine n_map ys _ (w_list e_var (SqL.of h6)) lens (by omega) fun i y H7 e7 hy => ⟨rfl, ?_⟩
          obtain ⟨b, hb, hr⟩ := get_ref th.1 hy
          obtain ⟨dx, l, ho, dl, hl⟩ := th6.2 i b y hb hy
          exact e_fld (e_fld (e_var (congrArg some hr)) (e7.k _ _ ho nt_ins) T.c_Thing T.n_Thing_label thgF_label) (e7.k _ _ hl nt_ins) T.c_Label T.n_Label_dry labF_dry) ne (fun z hz => by
            obtain ⟨y, hy, rfl⟩ := List.mem_map.mp hz
            exact (ok_parts (ok y hy)).2.2.2.1)) fun H7 e7 => ?_
        have hp7 := ((e5.trans e6).trans e7).k _ _ hp4 nt_lst
        refine s_retN (n_tup (v_cons (e_op (z := nV ht) e_var e_c (rv_l (SqL.of hp7) (atI_nat (j := 0) rfl))) (v_cons e_var (v_cons e_var (v_cons e_var v_nil)))) (by show 4 ≤ 100000; decide)) ?_
        simp only [List.map_map] at k
        exact RetN.go k (e14.trans ((e5.trans e6).trans e7))
def minutesP (p : Kyk1.Program) : Nat := (if p.heat = 30 then 45 else if p.heat = 40 then 60 else if p.heat = 60 then 75 else 90) + 10 * p.dry
def spMinutes : Sp := fun vs H Q _ => ∃ a p, vs = [.ref a] ∧ H a = some (.tup (progV p)) ∧ p.heat ∈ Kyk1.heats ∧ RetV (nV (minutesP p)) H Q
theorem ok_minutes (T : Txt K mg) : C8.Cal P w K mg base 1 "minutes_of" spMinutes [] := by
  have nd := (C8.fnScope_by sc_minutes_of).nd
  refine mkCal1 T.d_minutes_of T.m_minutes_of (fun _ _ _ _ _ _ us hl => match us, hl with | [_], _ => rfl) sc_minutes_of ?len fun cdv A outer s H vs Q E hr h => ⟨_, (pss_cons (ps_asg (pv 0) (pg_tup rfl (pgs_cons (pg_name (i := 1) nd rfl (Or.inl rfl)) (pgs_cons (pg_name (i := 2) nd rfl (Or.inl rfl)) (pgs_cons (pg_name (i := 3) nd rfl (Or.inl rfl)) (pgs_cons (pg_name (i := 4) nd rfl (Or.inl rfl)) pgs_nil))))))
      (pss_one (ps_ret (pe_op op_add (pe_ix (ix_kd) (C8.pe_gc rfl T.g_WASHING_MINUTES) (pv 1) (fun _ _ => rfl)) (pe_op op_mul (C8.pe_gc rfl T.g_DRYING_MINUTES) (pv 4)))))), ?body⟩
  case len =>
    rintro vs H Q E ⟨_, _, rfl, _⟩
    rfl
  case body =>
    obtain ⟨a, p, rfl, h0, hh, k⟩ := h
    refine ⟨_, rfl, a, progV p, rfl, SqT.of h0, rfl, _, _, rfl, _, _, rfl, _, _, rfl, _, _, rfl, rfl, ?_⟩
    dsimp only
    refine s_ret (v := nV (minutesP p)) ?_ k
    have tab : ∃ m : Nat, tabV [((30 : Int), V.int 45), (40, .int 60), (60, .int 75), (95, .int 90)] (p.heat : Int) = some (nV m) ∧ minutesP p = m + 10 * p.dry := by
      simp only [Kyk1.heats, List.mem_cons, List.not_mem_nil, or_false] at hh
      rcases hh with h | h | h | h <;> unfold minutesP <;> rw [h]
      · exact ⟨45, rfl, rfl⟩
      · exact ⟨60, rfl, rfl⟩
      · exact ⟨75, rfl, rfl⟩
      · exact ⟨90, rfl, rfl⟩
    obtain ⟨m, hm, e⟩ := tab
    rw [e]
    refine e_is (e_op (e_op (y := nV p.heat) e_c e_var fun H1 _ Q q => ⟨_, _, _, _, rfl, rfl, T.k_WASHING_MINUTES, hm, q⟩) (e_op e_c e_var (rv_i (.inl (by decide)))) rv_i0) ?_
    show V.int _ = V.int _
    congr 1
def spCol : Sp := fun vs H Q _ => ∃ a as ys, vs = [.ref a] ∧ H a = some (.lst (as.map V.ref)) ∧ Things H as ys ∧ ys ≠ [] ∧ ys.length ≤ 10000 ∧ RetV (.bl (Kyk1.coloursAll (ys.map (·.x)))) H Q
theorem sum_zero : ∀ l : List Nat, l.sum = 0 ↔ ∀ y ∈ l, y = 0
  | [] => ⟨fun _ y h => (nomatch h), fun _ => rfl⟩
  | a :: r => by
    rw [List.sum_cons, Nat.add_eq_zero_iff, sum_zero r]
    exact ⟨fun h y hy => by
      rcases List.mem_cons.mp hy with rfl | hy
      · exact h.1
      · exact h.2 y hy, fun h => ⟨h a (List.mem_cons_self ..), fun y hy => h y (List.mem_cons_of_mem _ hy)⟩⟩
theorem ok_colours (T : Txt K mg) : C8.Cal P w K mg base 1 "colours_agree" spCol [] := by
  have nd := (C8.fnScope_by sc_colours_agree).nd
  refine mkCal1 T.d_colours_agree T.m_colours_agree (fun _ _ _ _ _ _ us hl => match us, hl with | [_], _ => rfl) sc_colours_agree ?len fun cdv A outer s H vs Q E hr h => ⟨_, (pss_cons (ps_if (pt_cmpR op_eq (pe_callB (cr_sum rfl) (by rfl) T.b_sum (by decide +kernel) (pa_cons (pe_lc (own := [("thing", 1)]) (te := (tFld K (tVar 1) "runs")) (tt := tYes) rfl nd (pi_list (pv 0)) (blkOk_by (own := [("thing", 1)]) (N := N_colours_agree) (sc := C8.fnScope s_colours_agree) (by decide +kernel)) (fun _ _ _ _ _ => (pg_name (i := 1) nd rfl (Or.inl rfl))) (fun _ _ _ _ _ => pts_nil) (fun _ _ _ _ _ => (pe_fld (pv 1) rfl))) pa_nil)) pe_int (nomark _)) (pss_one (ps_ret pe_bl)) pss_nil)
      (pss_one (ps_ret (pe_callB (cr_all rfl) (by rfl) T.b_all (by decide +kernel) (pa_cons (pe_lc (own := [("thing", 1)]) (te := (tOp rEq (tFld K (tVar 1) "colour") (tFld K (tOp (rIxL K) (tVar 0) (tC (.int 0))) "colour"))) (tt := tYes) rfl nd (pi_list (pv 0)) (blkOk_by (own := [("thing", 1)]) (N := N_colours_agree) (sc := C8.fnScope s_colours_agree) (by decide +kernel)) (fun _ _ _ _ _ => (pg_name (i := 1) nd rfl (Or.inl rfl))) (fun _ _ _ _ _ => pts_nil) (fun _ _ _ _ _ => (pe_cmpR op_eq (pe_fld (pv 1) rfl) (pe_fld (pe_ix ix_list (pv 0) pe_int (fun _ _ => rfl)) rfl) (nomark _)))) pa_nil))))), ?body⟩
  case len =>
    rintro vs H Q E ⟨_, _, _, rfl, _⟩
    rfl
  case body =>
    obtain ⟨a, as, ys, rfl, h0, th, hne, hlen, k⟩ := h
    have lens : (as.map V.ref).length = ys.length := by rw [List.length_map]; exact th.1
    rw [colours_eq (by simpa using hne)] at k
    have hs : (ys.map fun y => rN y.x.runs).sum = 0 ↔ (ys.map (·.x)).all (fun x => !x.runs) = true := by
      rw [sum_zero, List.all_eq_true]
      constructor
      · intro h x hx
        obtain ⟨y, hy, rfl⟩ := List.mem_map.mp hx
        have := h _ (List.mem_map.mpr ⟨y, hy, rfl⟩)
        revert this
        cases y.x.runs <;> decide
      · intro h z hz
        obtain ⟨y, hy, rfl⟩ := List.mem_map.mp hz
        have := h _ (List.mem_map.mpr ⟨y, hy, rfl⟩)
        revert this
        cases y.x.runs <;> decide
    refine s_when (t_test (e_op (e_sumN (l := ys.map fun y => rN y.x.runs) (by
      rw [List.map_map]
      refine n_map ys _ (w_list e_var (SqL.of h0)) lens (by omega) fun i y H1 e1 hy => ⟨rfl, ?_⟩
      obtain ⟨b, hb, hr⟩ := get_ref th.1 hy
      obtain ⟨dx, l, ho, hl⟩ := th.2 i b y hb hy
      exact e_fld (e_var (congrArg some hr)) (e1.k _ _ ho nt_ins) T.c_Thing T.n_Thing_runs thgF_runs)) e_c rv_eq)) (fun c H1 e1 => ?_) fun c H1 e1 => ?_
    · rw [if_pos (hs.mp (by
        rw [cast_sum] at c
        simp only [decide_eq_true_eq, V.int.injEq] at c
        omega))] at k
      exact s_ret e_c (k.go e1)
    · rw [if_neg (fun z => by
        have := hs.mpr z
        rw [cast_sum, this] at c
        simp at c)] at k
      have h1 := e1.k _ _ h0 nt_lst
      have th1 := th.mono e1
      obtain ⟨y0, r, rfl⟩ : ∃ y0 r, ys = y0 :: r := by
        cases ys with
        | nil => exact absurd rfl hne
        | cons y0 r => exact ⟨y0, r, rfl⟩
      obtain ⟨a0, ha0, hr0⟩ := get_ref (i := 0) (y := y0) th.1 rfl
      obtain ⟨dx0, l0, ho0, _⟩ := th1.2 0 a0 y0 ha0 rfl
      have at0 : atI (as.map V.ref) 0 = some (.ref a0) := atI_nat (j := 0) hr0
      refine s_ret (e_is (e_allN (l := (y0 :: r).map fun y => decide (V.int (y.x.colour : Int) = V.int (y0.x.colour : Int))) (by
        rw [List.map_map]
        refine n_map (y0 :: r) _ (w_list e_var (SqL.of h1)) lens (by omega) fun i y H2 e2 hy => ⟨rfl, ?_⟩
        obtain ⟨b, hb, hr⟩ := get_ref th.1 hy
        obtain ⟨dx, l, ho, hl⟩ := th1.2 i b y hb hy
        exact e_op (e_fld (e_var (congrArg some hr)) (e2.k _ _ ho nt_ins) T.c_Thing T.n_Thing_colour thgF_colour) (e_fld (e_op e_var e_c (rv_l (SqL.of (e2.k _ _ h1 nt_lst)) at0)) (e2.k _ _ ho0 nt_ins) T.c_Thing T.n_Thing_colour thgF_colour) rv_eq)) ?_) (k.go e1)
      show V.bl _ = V.bl _
      congr 1
      rw [Bool.eq_iff_iff]
      simp only [colB, List.map_cons, List.all_eq_true, List.mem_cons, List.mem_map, id_eq, beq_iff_eq, forall_eq_or_imp, forall_exists_index, and_imp, decide_eq_true_eq, V.int.injEq, forall_apply_eq_imp_iff₂, Int.ofNat_inj]
def spTog : Sp := fun vs H Q _ => ∃ a as ys, vs = [.ref a] ∧ H a = some (.lst (as.map V.ref)) ∧ Things H as ys ∧ ys ≠ [] ∧ ys.length ≤ 10000 ∧ (∀ y ∈ ys, Kyk1.okLabel y.x.label = true) ∧ RetV (.bl (Kyk1.together (ys.map (·.x)))) H Q
theorem ok_tog (T : Txt K mg) (c_colours_agree : C8.Cal P w K mg base 1 "colours_agree" spCol []) (c_mildest_program : C8.Cal P w K mg base 1 "mildest_program" spMild []) : C8.Cal P w K mg base 2 "go_together" spTog [] := by
  have nd := (C8.fnScope_by sc_go_together).nd
  refine mkCal1 T.d_go_together T.m_go_together (fun _ _ _ _ _ _ us hl => match us, hl with | [_], _ => rfl) sc_go_together ?len fun cdv A outer s H vs Q E hr h => ⟨_, (pss_one (ps_ret (pe_and (C8.pe_c c_colours_agree hr (by decide) rfl (pa_cons (pv 0) pa_nil)) (pe_one (pe_cmpR op_notN (C8.pe_c c_mildest_program hr (by decide) rfl (pa_cons (pv 0) pa_nil)) pe_non (nomark _)))))), ?body⟩
  case len =>
    rintro vs H Q E ⟨_, _, _, rfl, _⟩
    rfl
  case body =>
    obtain ⟨a, as, ys, rfl, h0, th, hne, hlen, ok, k⟩ := h
    have k : RetV (.bl (Kyk1.coloursAll (ys.map (·.x)) && (Kyk1.program (ys.map (·.x))).isSome)) H Q := k
    refine s_ret (e_and (a := Kyk1.coloursAll (ys.map (·.x))) (b := (Kyk1.program (ys.map (·.x))).isSome) (e_call (a_cons e_var a_nil) (by
      rintro _ H1 e1 ⟨_, rfl, rfl⟩ Q q
      exact ⟨a, as, ys, rfl, e1.k _ _ h0 nt_lst, th.mono e1, hne, hlen, q⟩)) fun _ => ?_) k
    cases hp : Kyk1.program (ys.map (·.x)) with
    | none =>
      refine e_op (x := .non) (y := .non) (e_call (a_cons e_var a_nil) (by
        rintro _ H1 e1 ⟨_, rfl, rfl⟩ Q q
        exact ⟨a, as, ys, rfl, e1.k _ _ h0 nt_lst, th.mono e1, hne, hlen, ok, by rw [hp]; exact q⟩)) e_c fun H1 _ Q q => ⟨rfl, q⟩
    | some p =>
      refine e_op1 (o := .tup (progV p)) (y := .non) nt_tup (n_call (a_cons e_var a_nil) (by
        rintro _ H1 e1 ⟨_, rfl, rfl⟩ Q q
        exact ⟨a, as, ys, rfl, e1.k _ _ h0 nt_lst, th.mono e1, hne, hlen, ok, by rw [hp]; exact q⟩)) e_c fun p' H1 _ _ H2 _ Q q => ⟨rfl, q⟩
def wsum (ys : List Kyk.Item) : Nat := (ys.map (·.w)).sum
def spLoad : Sp := fun vs H Q _ => ∃ (a : Addr) (as : List Addr) (ys : List Kyk.Item) (d : Nat), vs = [.ref a, nV d] ∧ H a = some (.lst (as.map V.ref)) ∧ Things H as ys ∧ ys ≠ [] ∧ ys.length ≤ 10000 ∧ (∀ y ∈ ys, Kyk1.okLabel y.x.label = true) ∧ RetV (.bl (decide (wsum ys ≤ d) && Kyk1.together (ys.map (·.x)))) H Q
theorem ok_load (T : Txt K mg) (c_go_together : C8.Cal P w K mg base 2 "go_together" spTog []) : C8.Cal P w K mg base 3 "is_load" spLoad [] := by
  have nd := (C8.fnScope_by sc_is_load).nd
  refine mkCal1 T.d_is_load T.m_is_load (fun _ _ _ _ _ _ us hl => match us, hl with | [_, _], _ => rfl) sc_is_load ?len fun cdv A outer s H vs Q E hr h => ⟨_, (pss_one (ps_ret (pe_and (pe_cmpR op_le (pe_callB (cr_sum rfl) (by rfl) T.b_sum (by decide +kernel) (pa_cons (pe_lc (own := [("thing", 2)]) (te := (tFld K (tVar 2) "weight")) (tt := tYes) rfl nd (pi_list (pv 0)) (blkOk_by (own := [("thing", 2)]) (N := N_is_load) (sc := C8.fnScope s_is_load) (by decide +kernel)) (fun _ _ _ _ _ => (pg_name (i := 2) nd rfl (Or.inl rfl))) (fun _ _ _ _ _ => pts_nil) (fun _ _ _ _ _ => (pe_fld (pv 2) rfl))) pa_nil)) (pv 1) (nomark _)) (pe_one (C8.pe_c c_go_together hr (by decide) rfl (pa_cons (pv 0) pa_nil)))))), ?body⟩
  case len =>
    rintro vs H Q E ⟨_, _, _, _, rfl, _⟩
    rfl
  case body =>
    obtain ⟨a, as, ys, d, rfl, h0, th, hne, hlen, ok, k⟩ := h
    have lens : (as.map V.ref).length = ys.length := by rw [List.length_map]; exact th.1
    refine s_ret (e_and (e_is (e_op (e_sumN (l := ys.map (·.w)) (by
      rw [List.map_map]
      refine n_map ys _ (w_list e_var (SqL.of h0)) lens (by omega) fun i y H1 e1 hy => ⟨rfl, ?_⟩
      obtain ⟨b, hb, hr⟩ := get_ref th.1 hy
      obtain ⟨dx, l, ho, hl⟩ := th.2 i b y hb hy
      exact e_fld (e_var (congrArg some hr)) (e1.k _ _ ho nt_ins) T.c_Thing T.n_Thing_weight thgF_weight)) e_var rv_i0) (by
        show V.bl _ = V.bl _
        rw [cast_sum]
        congr 1
        rw [Bool.eq_iff_iff, decide_eq_true_eq, decide_eq_true_eq, Int.ofNat_le]
        rfl)) fun _ => e_call (a_cons e_var a_nil) (by
      rintro _ H1 e1 ⟨_, rfl, rfl⟩ Q q
      exact ⟨a, as, ys, rfl, e1.k _ _ h0 nt_lst, th.mono e1, hne, hlen, ok, q⟩)) k
end
end Wash
/-! Things shared out. -/
namespace Wash
open PySem PySem.Spec PyProof.Rows L2
def EvR (te : TE) (σ : L2.St) (H : Hp) (post : Addr → Hp → Prop) : Prop := ∀ H1, Xt H H1 → ∀ Q : VK, (∀ p H2, Nw H1 p → Xt H1 H2 → post p H2 → Q (.ref p) H2) → te σ H1 Q
section
variable {K : PySem.W.Frag} {σ : L2.St} {H : Hp} {te ta tb : TE} {D : Ends} {tz : TS}
theorem r_make {sp : Sp} {E : XK} {ta : TA} {R : List V → Hp → Prop} {C : Addr} {post : Addr → Hp → Prop} (ha : EvA ta σ H R)
    (hs : ∀ args H1, Xt H H1 → R args H1 → ∀ p dx H2 (Q : VK), Nw H1 p → Xt H1 H2 → H2 p = some (.ins C dx []) → (∀ H3, Xb p H2 H3 → post p H3 → Q .non H3) → sp (.ref p :: args) H2 Q E) : EvR (tMake C sp [] E ta) σ H post := fun H1 e Q q => ha H1 e _ fun args H2 e2 k => by
  intro x dx nx nd ne
  rw [List.append_nil]
  have e3 : Xt H2 (upd (upd H2 dx (.own x)) x (.ins C dx [])) := (Xt.new nd).trans (Xt.new (by rw [upd_ne (Ne.symm ne)]; exact nx))
  refine hs args H2 (e.trans e2) k x dx _ _ (.of nx) e3 upd_same fun H3 b3 ps => ⟨rfl, ?_⟩
  have e4 : Xt H2 H3 := ⟨fun c o h n => b3.k c o (ne_of_none h nx) (e3.k c o h n) n, fun h => b3.t (e3.t h)⟩
  exact q x H3 (.back e2 (.of nx)) (e2.trans e4) ps
theorem s_asgR {i : Nat} {post : Addr → Hp → Prop} (h : EvR te σ H post) (k : ∀ p H1, Nw H p → Xt H H1 → post p H1 → tz D (σ.set i (some (.ref p))) H1) : tSeq (tAsg te (gName i)) tz D σ H := h H (Xt.refl H) _ fun p H1 f e hp => k p H1 f e hp
theorem things2 {b c : Addr} {y z : Kyk.Item} (h1 : ThgAt H b y) (h2 : ThgAt H c z) : Things H [b, c] [y, z] := ⟨rfl, fun i a x ha hx => by
  match i, ha, hx with
  | 0, ha, hx =>
    cases ha
    cases hx
    exact h1
  | 1, ha, hx =>
    cases ha
    cases hx
    exact h2
  | _ + 2, ha, _ => simp at ha⟩
theorem things1 {b : Addr} {y : Kyk.Item} (h1 : ThgAt H b y) : Things H [b] [y] := ⟨rfl, fun i a x ha hx => by
  match i, ha, hx with
  | 0, ha, hx =>
    cases ha
    cases hx
    exact h1
  | _ + 1, ha, _ => simp at ha⟩
end
def pc (y : Kyk.Item) : Kyk2.Piece := ⟨y.x, y.w⟩
def shaF (d : Int) (wA mA : Addr) : List (Str × V) := [("drum", .int d), ("weights", .ref wA), ("matches", .ref mA)]
theorem shaF_drum {d : Int} {wA mA : Addr} : (shaF d wA mA).lookup (Str.ofString "drum") = some (.int d) := rfl
theorem shaF_weights {d : Int} {wA mA : Addr} : (shaF d wA mA).lookup (Str.ofString "weights") = some (.ref wA) := rfl
theorem shaF_matches {d : Int} {wA mA : Addr} : (shaF d wA mA).lookup (Str.ofString "matches") = some (.ref mA) := rfl
theorem shaF_m {d : Int} {wA mA : Addr} {x : Str} (h1 : (x == Str.ofString "drum") = false) (h2 : (x == Str.ofString "weights") = false) (h3 : (x == Str.ofString "matches") = false) : (shaF d wA mA).lookup x = none := (lk_skip h1).trans ((lk_skip h2).trans ((lk_skip h3).trans rfl))
def rowO (l : List Kyk2.Piece) (x : Kyk1.Thing) : HO := .lst ((l.map fun z => Kyk1.together [x, z.x]).map V.bl)
structure ShaAt (H : Hp) (a : Addr) (d : Nat) (l : List Kyk2.Piece) : Prop where
  ex : ∃ (dx wA mA : Addr) (ms : List Addr), H a = some (.ins cSharing dx (shaF d wA mA)) ∧ H wA = some (.lst ((l.map (·.w)).map nV)) ∧ H mA = some (.lst (ms.map V.ref)) ∧ ms.length = l.length ∧ ∀ (i : Nat) m p, ms[i]? = some m → l[i]? = some p → H m = some (rowO l p.x)
theorem ShaAt.mono {H H' : Hp} {a : Addr} {d : Nat} {l : List Kyk2.Piece} (e : Xt H H') (h : ShaAt H a d l) : ShaAt H' a d l := by
  obtain ⟨dx, wA, mA, ms, h1, h2, h3, h4, h5⟩ := h.ex
  exact ⟨dx, wA, mA, ms, e.k _ _ h1 nt_ins, e.k _ _ h2 nt_lst, e.k _ _ h3 nt_lst, h4, fun i m p a b => e.k _ _ (h5 i m p a b) nt_lst⟩
section
variable {P : Program} {w : World} {K : PySem.W.Frag} {mg : Str → Option Value} {base : Heap}
def OkL (ys : List Kyk.Item) : Prop := ∀ y ∈ ys, Kyk1.okLabel y.x.label = true
def spPartners : Sp := fun vs H Q _ => ∃ b a as y ys, vs = [.ref b, .ref a] ∧ ThgAt H b y ∧ Kyk1.okLabel y.x.label = true ∧ H a = some (.lst (as.map V.ref)) ∧ Things H as ys ∧ ys.length ≤ 10000 ∧ OkL ys ∧ RetN (rowO (ys.map pc) y.x) H Q
theorem ok_partners (T : Txt K mg) (c_go_together : C8.Cal P w K mg base 2 "go_together" spTog []) : C8.Cal P w K mg base 3 "partners" spPartners [] := by
  have nd := (C8.fnScope_by sc_partners).nd
  refine mkCal1 T.d_partners T.m_partners (fun _ _ _ _ _ _ us hl => match us, hl with | [_, _], _ => rfl) sc_partners ?len fun cdv A outer s H vs Q E hr h => ⟨_, (pss_one (ps_ret (pe_lc (own := [("other", 2)]) (te := (tCall spTog [] C8.E0 (tCons (tLst (tCons (tVar 0) (tCons (tVar 2) tNil))) tNil))) (tt := tYes) rfl nd (pi_list (pv 1)) (blkOk_by (own := [("other", 2)]) (N := N_partners) (sc := C8.fnScope s_partners) (by decide +kernel)) (fun _ _ _ _ _ => (pg_name (i := 2) nd rfl (Or.inl rfl))) (fun _ _ _ _ _ => pts_nil) (fun _ _ _ _ _ => (C8.pe_c c_go_together hr (by decide) rfl (pa_cons (pe_lst (pa_cons (pv 0) (pa_cons (pv 2) pa_nil))) pa_nil)))))), ?body⟩
  case len =>
    rintro vs H Q E ⟨_, _, _, _, _, rfl, _⟩
    rfl
  case body =>
    obtain ⟨b, a, as, y, ys, rfl, hb, oky, h0, th, hlen, ok, k⟩ := h
    have lens : (as.map V.ref).length = ys.length := by rw [List.length_map]; exact th.1
    refine s_retN ?_ k
    unfold rowO
    rw [List.map_map, List.map_map]
    refine n_map ys _ (w_list e_var (SqL.of h0)) lens (by omega) fun i z H1 e1 hz => ⟨rfl, ?_⟩
    obtain ⟨c, hc, hr⟩ := get_ref th.1 hz
    refine e_call (a_consN nt_lst (n_lst (v_cons e_var (v_cons (e_var (v := .ref c) (congrArg some hr)) v_nil)) (by show 2 ≤ 100000; decide)) a_nil) ?_
    rintro _ H2 e2 ⟨p, _, rfl, _, hp, rfl⟩ Q q
    exact ⟨p, [b, c], [y, z], rfl, hp, things2 (hb.mono (e1.trans e2)) ((th.2 i c z hc hz).mono (e1.trans e2)), by simp, by simp, fun x hx => by
      simp only [List.mem_cons, List.not_mem_nil, or_false] at hx
      rcases hx with rfl | rfl
      · exact oky
      · exact ok _ (List.mem_of_getElem? hz), q⟩
def spSharingI : Sp := fun vs H Q _ => ∃ (p dx a : Addr) (as : List Addr) (ys : List Kyk.Item) (d : Nat), vs = [.ref p, .ref a, nV d] ∧ H p = some (.ins cSharing dx []) ∧ H a = some (.lst (as.map V.ref)) ∧ Things H as ys ∧ ys.length ≤ 10000 ∧ OkL ys ∧ ∀ H', Xb p H H' → ShaAt H' p d (ys.map pc) → Q .non H'
theorem ok_Sharing (T : Txt K mg) (c_partners : C8.Cal P w K mg base 3 "partners" spPartners []) : C8.Mak P w K mg base 4 "Sharing" cSharing spSharingI [] := by
  have nd := (C8.fnScope_by sc_Sharing_init).nd
  refine mkMak T.m_Sharing T.k_Sharing (fun _ _ _ _ _ _ us hl => match us, hl with | [_, _, _], _ => rfl) sc_Sharing_init ?len fun f cdv A outer s H vs Q E hr h => ⟨_, (pss_cons (ps_fld (pv 0) (pv 2) rfl)
      (pss_cons (ps_fld (pv 0) (pe_lc (own := [("thing", 3)]) (te := (tFld K (tVar 3) "weight")) (tt := tYes) rfl nd (pi_list (pv 1)) (blkOk_by (own := [("thing", 3)]) (N := N_Sharing_init) (sc := C8.fnScope s_Sharing_init) (by decide +kernel)) (fun _ _ _ _ _ => (pg_name (i := 3) nd rfl (Or.inl rfl))) (fun _ _ _ _ _ => pts_nil) (fun _ _ _ _ _ => (pe_fld (pv 3) rfl))) rfl)
      (pss_one (ps_fld (pv 0) (pe_lc (own := [("thing", 3)]) (te := (tCall spPartners [] C8.E0 (tCons (tVar 3) (tCons (tVar 1) tNil)))) (tt := tYes) rfl nd (pi_list (pv 1)) (blkOk_by (own := [("thing", 3)]) (N := N_Sharing_init) (sc := C8.fnScope s_Sharing_init) (by decide +kernel)) (fun _ _ _ _ _ => (pg_name (i := 3) nd rfl (Or.inl rfl))) (fun _ _ _ _ _ => pts_nil) (fun _ _ _ _ _ => (C8.pe_c c_partners hr (by decide) rfl (pa_cons (pv 3) (pa_cons (pv 1) pa_nil))))) rfl)))), ?body⟩
  case len =>
    rintro vs H Q E ⟨_, _, _, _, _, _, rfl, _⟩
    rfl
  case body =>
    obtain ⟨p, dx, a, as, ys, d, rfl, hp, h0, th, hlen, ok, k⟩ := h
    have lens : (as.map V.ref).length = ys.length := by rw [List.length_map]; exact th.1
    have keep : ∀ {H1 : Hp}, Xb p H H1 → H1 a = some (.lst (as.map V.ref)) ∧ Things H1 as ys := fun {H1} b1 => by
      refine ⟨b1.k _ _ (ne_of h0 hp (by intro z; cases z)) h0 nt_lst, th.1, fun i c y hc hy => ?_⟩
      obtain ⟨dx2, l, ho, dl, hl⟩ := th.2 i c y hc hy
      exact ⟨dx2, l, b1.k _ _ (ne_of ho hp (by intro z; cases z)) ho nt_ins, dl, b1.k _ _ (ne_of hl hp (by intro z; cases z)) hl nt_ins⟩
    refine s_fld e_var e_var hp T.c_Sharing T.n_Sharing_drum (by decide) fun H1 b1 h1 => ?_
    obtain ⟨ha1, th1⟩ := keep b1
    refine s_fldN (o := .lst ((ys.map (·.w)).map nV)) nt_lst (by
      rw [List.map_map]
      refine n_map ys _ (w_list e_var (SqL.of ha1)) lens (by omega) fun i y H2 e2 hy => ⟨rfl, ?_⟩
      obtain ⟨c, hc, hr⟩ := get_ref th.1 hy
      obtain ⟨dx2, l, ho, hl⟩ := th1.2 i c y hc hy
      exact e_fld (e_var (congrArg some hr)) (e2.k _ _ ho nt_ins) T.c_Thing T.n_Thing_weight thgF_weight) e_var h1 T.c_Sharing T.n_Sharing_weights (by show 1 < 1000; decide) fun wA H2 nw b2 h2 hw => ?_
    have b12 := b1.trans b2
    obtain ⟨ha2, th2⟩ := keep b12
    unfold sFld
    refine n_lcO (σ := _) (H := H2) ys (fun y m fp H3 => fp = [m] ∧ H3 m = some (rowO (ys.map pc) y.x)) (w_list e_var (SqL.of ha2)) lens (by omega) (fun y m fp H3 H4 r kp => ?_) (fun y m fp H3 r => ?_) (fun i y H3 e3 hy => ⟨rfl, fun H4 e4 Q2 q2 => ?_⟩) (Xt.refl H2) fun mA el H3 nm e3 hm hel0 nd2 hel => ?_
    · obtain ⟨rfl, r⟩ := r
      exact ⟨rfl, kp m (by simp) _ r nt_lst⟩
    · obtain ⟨rfl, r⟩ := r
      exact ⟨by simp, _, r, nt_lst⟩
    · obtain ⟨c, hc, hr⟩ := get_ref th.1 hy
      refine (n_call (o := rowO (ys.map pc) y.x) (R := fun vs _ => vs = [.ref c, .ref a]) (v_cons ?ha (v_cons e_var v_nil)) ?hs : EvN _ _ H4 _) H4 (Xt.refl _) Q2 fun m H5 nm5 e5 hm5 => q2 m [m] H5 (fun b hb => by
        have : b = m := by simpa using hb
        rw [this]
        exact nm5) e5 ⟨rfl, hm5⟩
      case ha => exact e_var (congrArg some hr)
      case hs =>
        rintro _ H5 e5 rfl Q3 q3
        have e35 := (e3.trans e4).trans e5
        exact ⟨c, a, as, y, ys, rfl, (th2.2 i c y hc hy).mono e35, ok _ (List.mem_of_getElem? hy), e35.k _ _ ha2 nt_lst, th2.mono e35, hlen, ok, q3⟩
    · refine ⟨_, rfl, p, cSharing, dx, _, rfl, e3.k _ _ h2 nt_ins, T.c_Sharing, T.n_Sharing_matches, (by show 2 < 1000; decide), ?_⟩
      have pn : ∀ {b : Addr} {xs : List V}, H3 b = some (.lst xs) → b ≠ p := fun {b xs} hb => ne_of hb (e3.k _ _ h2 nt_ins) (by intro z; cases z)
      have b3 : Xb p H3 (upd H3 p (.ins cSharing dx (putF "matches" (.ref mA) (putF "weights" (.ref wA) (putF "drum" (nV d) []))))) := Xb.upd (e3.k _ _ h2 nt_ins) nt_ins ni
      refine k _ (b12.trans ((Xb.of e3).trans b3)) ⟨dx, wA, mA, el.map (·.1), ?_, ?_, ?_, ?_, ?_⟩
      · rw [upd_same]
        rfl
      · have hw3 := e3.k _ _ hw nt_lst
        rw [show (ys.map pc).map (·.w) = ys.map (·.w) by rw [List.map_map]; rfl]
        rw [upd_ne (pn hw3)]
        exact hw3
      · rw [upd_ne (pn hm)]
        exact hm
      · rw [List.length_map, List.length_map]
        exact hel0
      · intro i m pp hm2 hpp
        rw [List.getElem?_map] at hm2 hpp
        obtain ⟨e, he, rfl⟩ := Option.map_eq_some_iff.mp hm2
        obtain ⟨y, hy, rfl⟩ := Option.map_eq_some_iff.mp hpp
        obtain ⟨⟨_, r⟩, _⟩ := hel i e y he hy
        have r' : H3 e.1 = some (.lst ((((ys.map pc).map fun z => Kyk1.together [y.x, z.x])).map V.bl)) := r
        rw [upd_ne (pn r')]
        exact r
/-! what takes says -/
def spTakes : Sp := fun vs H Q _ => ∃ (a wy : Addr) (way : List Nat) (load d : Nat) (l : List Kyk2.Piece), vs = [.ref a, .ref wy, nV load] ∧ ShaAt H a d l ∧ H wy = some (.lst (way.map nV)) ∧ way.length < l.length ∧ l.length ≤ 1000 ∧ RetV (.bl (takesB d l way load)) H Q
theorem ok_takes (T : Txt K mg) : C8.Met P w K mg base 1 cSharing "takes" spTakes [] := by
  have nd := (C8.fnScope_by sc_takes).nd
  refine mkMet T.c_Sharing T.d_takes (fun _ _ _ _ _ _ us hl => match us, hl with | [_, _, _], _ => rfl) sc_takes ?len fun f cdv A outer s H vs Q E hr h => ⟨_, (pss_cons (ps_set (i := 3) nd rfl (Or.inr rfl) (pe_callB call_len_seq (by rfl) T.b_len (by decide +kernel) (pa_cons (pv 1) pa_nil)))
      (pss_cons (ps_setLc (i := 4) (own := [("place", 5)]) (te := (tVar 5)) (tt := (tTest (tOp rEq (tOp (rIxL K) (tVar 1) (tVar 5)) (tVar 2)))) rfl nd rfl rfl (sw_true rfl rfl rfl (by decide +kernel)) (pi_range1 (by rfl) T.b_range (pa_cons (pv 3) pa_nil)) (blkOk_by (own := [("place", 5)]) (N := N_takes) (sc := C8.fnScope s_takes) (by decide +kernel)) (fun _ _ _ _ _ => (pg_name (i := 5) nd rfl (Or.inl rfl))) (fun _ _ _ _ _ => (pts_one (pt_cmpR op_eq (pe_ix ix_list (pv 1) (pv 5) (fun _ _ => rfl)) (pv 2) (nomark _)))) (fun _ _ _ _ _ => (pv 5)))
      (pss_cons (ps_if (pt_cmpR op_gt (pe_op op_add (pe_ix ix_list (pe_fld (pv 0) rfl) (pv 3) (fun _ _ => rfl)) (pe_callB (cr_sum rfl) (by rfl) T.b_sum (by decide +kernel) (pa_cons (pe_lc (own := [("place", 5)]) (te := (tOp (rIxL K) (tFld K (tVar 0) "weights") (tVar 5))) (tt := tYes) rfl nd (pi_list (pv 4)) (blkOk_by (own := [("place", 5)]) (N := N_takes) (sc := C8.fnScope s_takes) (by decide +kernel)) (fun _ _ _ _ _ => (pg_name (i := 5) nd rfl (Or.inl rfl))) (fun _ _ _ _ _ => pts_nil) (fun _ _ _ _ _ => (pe_ix ix_list (pe_fld (pv 0) rfl) (pv 5) (fun _ _ => rfl)))) pa_nil))) (pe_fld (pv 0) rfl) (nomark _)) (pss_one (ps_ret pe_bl)) pss_nil)
      (pss_one (ps_ret (pe_callB (cr_all rfl) (by rfl) T.b_all (by decide +kernel) (pa_cons (pe_lc (own := [("place", 5)]) (te := (tOp (rIxL K) (tOp (rIxL K) (tFld K (tVar 0) "matches") (tVar 3)) (tVar 5))) (tt := tYes) rfl nd (pi_list (pv 4)) (blkOk_by (own := [("place", 5)]) (N := N_takes) (sc := C8.fnScope s_takes) (by decide +kernel)) (fun _ _ _ _ _ => (pg_name (i := 5) nd rfl (Or.inl rfl))) (fun _ _ _ _ _ => pts_nil) (fun _ _ _ _ _ => (pe_ix ix_list (pe_ix ix_list (pe_fld (pv 0) rfl) (pv 3) (fun _ _ => rfl)) (pv 5) (fun _ _ => rfl)))) pa_nil))))))), ?body⟩
  case len =>
    rintro vs H Q E ⟨_, _, _, _, _, _, rfl, _⟩
    rfl
  case body =>
    obtain ⟨a, wy, way, load, d, l, rfl, sh, hw, hlt, hl, k⟩ := h
    obtain ⟨dx, wA, mA, ms, h1, h2, h3, h4, h5⟩ := sh.ex
    refine s_asg (e_len e_var (SqL.of hw)) fun H1 e1 => ?_
    rw [List.length_map]
    have hw1 := e1.k _ _ hw nt_lst
    refine s_asgN (o := .lst ((insideN way load).map nV)) ?_ fun ip H2 np e2 hi => ?_
    · refine n_lc (List.range way.length) _ nV (w_range (v_cons e_var v_nil) (by omega)) (by simp) (by omega) fun i y H2 e2 hy => ?_
      have hy2 : i < way.length ∧ i = y := by
        obtain ⟨q1, q2⟩ := List.getElem?_eq_some_iff.mp hy
        rw [List.length_range] at q1
        rw [List.getElem_range] at q2
        exact ⟨q1, q2⟩
      obtain ⟨q1, rfl⟩ := hy2
      refine ⟨rfl, t_is (t_test (e_op (e_op e_var e_var (rv_l (SqL.of (e2.k _ _ hw1 nt_lst)) (at_nat q1))) e_var rv_eq)) ?_, fun _ => e_var⟩
      rw [Bool.eq_iff_iff, decide_eq_true_eq, V.int.injEq, Int.ofNat_inj, beq_iff_eq]
    · have e12 := e1.trans e2
      have k1 := e12.k _ _ h1 nt_ins
      have k2 := e12.k _ _ h2 nt_lst
      have k3 := e12.k _ _ h3 nt_lst
      have wAt : ∀ {p : Nat}, p < l.length → atI ((l.map (·.w)).map nV) (p : Int) = some (nV (l.getD p pcD).w) := fun {p} hp => by
        have := at_nat (t := l.map (·.w)) (j := p) (by rw [List.length_map]; exact hp)
        rw [this]
        congr 1
        simp [List.getD_eq_getElem?_getD, hp]
      have inB : ∀ {p : Nat}, p ∈ insideN way load → p < way.length := fun {p} hp => List.mem_range.mp (List.mem_filter.mp hp).1
      have lenI : (insideN way load).length ≤ 1000 := by
        have : (insideN way load).length ≤ way.length := by
          have := List.length_filter_le (fun p => way.getD p 0 == load) (List.range way.length)
          rw [List.length_range] at this
          exact this
        omega
      refine s_when (b := !decide ((l.getD way.length pcD).w + ((insideN way load).map fun p => (l.getD p pcD).w).sum ≤ d)) (t_is (t_test (e_op (e_op (e_op (e_fld e_var k1 T.c_Sharing T.n_Sharing_weights shaF_weights) e_var (rv_l (SqL.of k2) (wAt hlt))) (e_sumN (l := (insideN way load).map fun p => (l.getD p pcD).w) (by
        rw [List.map_map]
        refine n_map (insideN way load) _ (w_list e_var (SqL.of hi)) (by rw [List.length_map]) (by rw [List.length_map]; omega) fun i y H3 e3 hy => ⟨rfl, ?_⟩
        have hr : ((insideN way load).map nV)[i]? = some (nV y) := by rw [List.getElem?_map, hy] <;> rfl
        exact e_op (e_fld e_var (e3.k _ _ k1 nt_ins) T.c_Sharing T.n_Sharing_weights shaF_weights) (e_var (v := nV y) (congrArg some hr)) (rv_l (SqL.of (e3.k _ _ k2 nt_lst)) (wAt (Nat.lt_trans (inB (List.mem_of_getElem? hy)) hlt))))) rv_i0) (e_fld e_var k1 T.c_Sharing T.n_Sharing_drum shaF_drum) rv_i0)) (by
          rw [cast_sum, Bool.eq_iff_iff, decide_eq_true_eq, Bool.not_eq_true', decide_eq_false_iff_not]
          omega)) (fun c H3 e3 => ?_) fun c H3 e3 => ?_
      · rw [show takesB d l way load = false by
          unfold takesB
          rw [show decide _ = false from by simpa using c]
          rfl] at k
        exact s_ret e_c (k.go (e12.trans e3))
      · have al : takesB d l way load = (insideN way load).all fun p => Kyk1.together [(l.getD way.length pcD).x, (l.getD p pcD).x] := by
          unfold takesB
          rw [show decide _ = true from by simpa using c]
          rfl
        rw [al] at k
        have hz : l[way.length]? = some (l.getD way.length pcD) := by
          rw [List.getD_eq_getElem?_getD, List.getElem?_eq_getElem hlt]
          rfl
        have hm : ms[way.length]? = some (ms[way.length]'(by omega)) := List.getElem?_eq_getElem (by omega)
        have hrow := h5 _ _ _ hm hz
        refine s_ret (e_is (e_allN (l := (insideN way load).map fun p => Kyk1.together [(l.getD way.length pcD).x, (l.getD p pcD).x]) (by
          rw [List.map_map]
          refine n_map (insideN way load) _ (w_list e_var (SqL.of (e3.k _ _ hi nt_lst))) (by rw [List.length_map]) (by rw [List.length_map]; omega) fun i y H4 e4 hy => ⟨rfl, ?_⟩
          have hr : ((insideN way load).map nV)[i]? = some (nV y) := by rw [List.getElem?_map, hy] <;> rfl
          have hyl := Nat.lt_trans (inB (List.mem_of_getElem? hy)) hlt
          have e34 := e3.trans e4
          refine e_op (e_op (e_fld e_var (e34.k _ _ k1 nt_ins) T.c_Sharing T.n_Sharing_matches shaF_matches) e_var (rv_l (v := .ref (ms[way.length]'(by omega))) (SqL.of (e34.k _ _ k3 nt_lst)) (atI_nat (by rw [List.getElem?_map, hm] <;> rfl)))) (e_var (v := nV y) (congrArg some hr)) (rv_l (SqL.of ((e12.trans e34).k _ _ hrow nt_lst)) (atI_nat ?_))
          rw [List.getElem?_map, List.getElem?_map, List.getElem?_eq_getElem hyl]
          simp [List.getD_eq_getElem?_getD, hyl])) (by
            show V.bl _ = V.bl _
            rw [List.all_map]
            rfl)) (k.go (e12.trans e3))
end
end Wash
/-! The first way. -/
namespace Wash
open PySem PySem.Spec PyProof.Rows L2
open Kyk2 (firstSome)
theorem begun_max : ∀ way : List Nat, begun way = if way = [] then 0 else maxN way + 1 := by
  have key : ∀ (l : List Nat) (n : Nat), l.foldl (fun n i => max n (i + 1)) (n + 1) = l.foldl max n + 1 := by
    intro l
    induction l with
    | nil => intro n; rfl
    | cons a r ih =>
      intro n
      rw [List.foldl_cons, List.foldl_cons, show max (n + 1) (a + 1) = max n a + 1 by omega]
      exact ih _
  intro way
  cases way with
  | nil => rfl
  | cons a r =>
    rw [if_neg (List.cons_ne_nil _ _)]
    unfold begun maxN
    rw [List.foldl_cons, List.foldl_cons, show max 0 (a + 1) = a + 1 by omega, show max 0 a = a by omega]
    exact key r a
theorem firstSome_app {f : Nat → Option (List Nat)} : ∀ (l m : List Nat), (∀ j ∈ l, f j = none) → firstSome f (l ++ m) = firstSome f m
  | [], _, _ => rfl
  | a :: r, m, h => by
    show (match f a with | some b => some b | none => firstSome f (r ++ m)) = _
    rw [h a (List.mem_cons_self ..)]
    exact firstSome_app r m fun j hj => h j (List.mem_cons_of_mem _ hj)
theorem firstSome_nil {f : Nat → Option (List Nat)} {n : Nat} (h : ∀ j, j < n → f j = none) : firstSome f (List.range n) = none := by
  have := firstSome_app (f := f) (List.range n) [] fun j hj => h j (List.mem_range.mp hj)
  rw [List.append_nil] at this
  exact this
theorem firstSome_at {f : Nat → Option (List Nat)} {n i : Nat} {b : List Nat} (hi : i < n) (h : ∀ j, j < i → f j = none) (hb : f i = some b) : firstSome f (List.range n) = some b := by
  have e : List.range n = List.range i ++ (i :: (List.range (n - i - 1)).map (i + 1 + ·)) := by
    have h1 := List.range_add (n := i) (m := n - i)
    rw [show i + (n - i) = n by omega] at h1
    rw [h1]
    congr 1
    obtain ⟨k, hk⟩ : ∃ k, n - i = k + 1 := ⟨n - i - 1, by omega⟩
    rw [hk, List.range_succ_eq_map, show k + 1 - 1 = k by omega, List.map_cons, List.map_map]
    congr 1
    apply List.map_congr_left
    intro a _
    simp
    omega
  rw [e, firstSome_app _ _ fun j hj => h j (List.mem_range.mp hj)]
  unfold firstSome
  rw [hb]
/-- a list, new or not -/
def EvX (te : TE) (σ : L2.St) (H : Hp) (xs : List V) : Prop := ∀ H1, Xt H H1 → ∀ Q : VK, (∀ p H2, Xt H1 H2 → H2 p = some (.lst xs) → Q (.ref p) H2) → te σ H1 Q
section
variable {σ : L2.St} {H : Hp} {te : TE} {D : Ends} {tz : TS}
theorem s_asgX {i : Nat} {xs : List V} (h : EvX te σ H xs) (k : ∀ p H1, Xt H H1 → H1 p = some (.lst xs) → tz D (σ.set i (some (.ref p))) H1) : tSeq (tAsg te (gName i)) tz D σ H := h H (Xt.refl H) _ fun p H1 e hp => k p H1 e hp
theorem x_meth {sp : Sp} {E : XK} {ta : TA} {R : List V → Hp → Prop} {a C dx : Addr} {fs : List (Str × V)} {m : Str} {xs : List V} (h : Ev te σ H (.ref a)) (ho : H a = some (.ins C dx fs)) (l : fs.lookup m = none) (ha : EvA ta σ H R)
    (hs : ∀ vs H1, Xt H H1 → R vs H1 → ∀ Q : VK, (∀ p H2, Xt H1 H2 → H2 p = some (.lst xs) → Q (.ref p) H2) → sp (.ref a :: vs) H1 Q E) : EvX (tMeth C m sp [] E te ta) σ H xs := fun H1 e Q q =>
  h H1 e _ fun H2 e2 => ⟨a, dx, fs, rfl, (e.trans e2).k _ _ ho nt_ins, l, ha H2 (e.trans e2) _ fun vs H3 e3 k => by
    rw [List.append_nil]
    exact hs vs H3 ((e.trans e2).trans e3) k Q fun p H4 e4 hp => q p H4 ((e2.trans e3).trans e4) hp⟩
theorem x_call {sp : Sp} {E : XK} {ta : TA} {R : List V → Hp → Prop} {xs : List V} (ha : EvA ta σ H R) (hs : ∀ vs H1, Xt H H1 → R vs H1 → ∀ Q : VK, (∀ p H2, Xt H1 H2 → H2 p = some (.lst xs) → Q (.ref p) H2) → sp vs H1 Q E) : EvX (tCall sp [] E ta) σ H xs := fun H1 e Q q =>
  ha H1 e _ fun vs H2 e2 k => by
    rw [List.append_nil]
    exact hs vs H2 (e.trans e2) k Q fun p H3 e3 hp => q p H3 (e2.trans e3) hp
end
section
variable {P : Program} {w : World} {K : PySem.W.Frag} {mg : Str → Option Value} {base : Heap}
def spFin (m : Nat) : Sp := fun vs H Q _ => ∃ (a wy : Addr) (way : List Nat) (most d : Nat) (l : List Kyk2.Piece) (f : Nat), vs = [.ref a, .ref wy, nV most] ∧ f < m ∧ way.length + f = l.length ∧ ShaAt H a d l ∧ H wy = some (.lst (way.map nV)) ∧ l.length ≤ 1000 ∧ most ≤ 10000 ∧ (∀ i ∈ way, i < 10000) ∧
  (fin d l most f way = none → RetV .non H Q) ∧ (∀ b, fin d l most f way = some b → ∀ p H2, Xt H H2 → H2 p = some (.lst (b.map nV)) → Q (.ref p) H2)
theorem e_maxDef {σ : L2.St} {H : Hp} {a : Addr} {way : List Nat} {te tk : TE} (h : Ev te σ H (.ref a)) (hw : H a = some (.lst (way.map nV))) (hk : Ev tk σ H (.int (-1))) : Ev (tCKw (rMaxDef K) (tCons te tNil) (tCons tk tNil)) σ H (.int ((begun way : Nat) - 1 : Int)) := fun H1 e1 Q q =>
  v_cons h v_nil H1 e1 _ fun vs H2 e2 kv => v_cons hk v_nil H2 (e1.trans e2) _ fun zs H3 e3 kz => by
    subst kv kz
    refine ⟨a, way.map fun n : Nat => (n : Int), -1, rfl, rfl, by rw [map_int]; exact SqL.of (((e1.trans e2).trans e3).k _ _ hw nt_lst), fun x hx => ?_⟩
    have : x = ((begun way : Nat) - 1 : Int) := by
      rw [begun_max]
      by_cases hn : way = []
      · subst hn
        simp at hx
        subst hx
        rfl
      · rw [if_neg (by simpa using hn)] at hx
        rw [if_neg hn]
        obtain ⟨h1, h2⟩ := hx
        obtain ⟨n, hn1, rfl⟩ := List.mem_map.mp h1
        rw [show n = maxN way from is_max hn1 fun y hy => by have := h2 y (List.mem_map.mpr ⟨y, hy, rfl⟩); omega]
        omega
    rw [this]
    exact q H3 (e2.trans e3)
theorem ok_fin (T : Txt K mg) (w_takes : C8.Met P w K mg base 1 cSharing "takes" spTakes []) : ∀ m, C8.Met P w K mg base (2 + m) cSharing "finished" (spFin m) []
  | 0 => by
    have nd := (C8.fnScope_by sc_finished).nd
    refine mkMet (k := 1) T.c_Sharing T.d_finished (fun _ _ _ _ _ _ us hl => match us, hl with | [_, _, _], _ => rfl) sc_finished (fun vs H Q E h => ?_) fun f cdv A outer s H vs Q E hr h => ?_
    · obtain ⟨_, _, _, _, _, _, _, rfl, _⟩ := h
      rfl
    · obtain ⟨_, _, _, _, _, _, _, _, h, _⟩ := h
      exact absurd h (Nat.not_lt_zero _)
  | m + 1 => by
    have w_finished := ok_fin T w_takes m
    have le1 : 1 ≤ 2 + m := by omega
    have nd := (C8.fnScope_by sc_finished).nd
    refine mkMet (k := 2 + m) T.c_Sharing T.d_finished (fun _ _ _ _ _ _ us hl => match us, hl with | [_, _, _], _ => rfl) sc_finished ?len fun f cdv A outer s H vs Q E hr h => ⟨_, (pss_cons (ps_if (pt_cmpR op_eq (pe_callB call_len_seq (by rfl) T.b_len (by decide +kernel) (pa_cons (pv 1) pa_nil)) (pe_callB call_len_seq (by rfl) T.b_len (by decide +kernel) (pa_cons (pe_fld (pv 0) rfl) pa_nil)) (nomark _)) (pss_one (ps_ret (pv 1))) pss_nil)
      (pss_cons (ps_set (i := 3) nd rfl (Or.inl rfl) (pe_op op_add (pe_callBK (cr_maxDef rfl) (by rfl) T.b_max (by decide +kernel) (pa_cons (pv 1) pa_nil) (pk_cons (pe_un un_neg pe_int) pk_nil)) pe_int))
      (pss_cons (ps_for PassesOwn.never rfl (pi_range1 (by rfl) T.b_range (pa_cons (pe_callB (call_min2 rfl) (by rfl) T.b_min (by decide +kernel) (pa_cons (pe_op op_add (pv 3) pe_int) (pa_cons (pv 2) pa_nil))) pa_nil)) (pg_name (i := 4) nd rfl (Or.inl rfl)) (pss_one (ps_if (pt_val (C8.pe_mt w_takes hr le1 (pv 0) (pa_cons (pv 1) (pa_cons (pv 4) pa_nil)))) (pss_cons (ps_set (i := 5) nd rfl (Or.inl rfl) (C8.pe_mt w_finished hr (Nat.le_refl _) (pv 0) (pa_cons (pe_op op_cat (pv 1) (pe_lst (pa_cons (pv 4) pa_nil))) (pa_cons (pv 2) pa_nil))))
      (pss_one (ps_if (pt_cmpR op_notN (pv 5) pe_non (nomark _)) (pss_one (ps_ret (pv 5))) pss_nil))) pss_nil)))
      (pss_one (ps_ret pe_non))))), ?body⟩
    case len =>
      rintro vs H Q E ⟨_, _, _, _, _, _, _, rfl, _⟩
      rfl
    case body =>
      obtain ⟨a, wy, way, most, d, l, f, rfl, hf, hlen, sh, hw, hl, hmost, hway, kN, kS⟩ := h
      obtain ⟨dx, wA, mA, ms, h1, h2, h3, h4, h5⟩ := sh.ex
      refine s_when (t_test (e_op (e_len e_var (SqL.of hw)) (e_len (e_fld e_var h1 T.c_Sharing T.n_Sharing_weights shaF_weights) (SqL.of h2)) rv_eq)) (fun c H1 e1 => ?_) fun c H1 e1 => ?_
      · have hf0 : f = 0 := by
          simp only [List.length_map, decide_eq_true_eq, V.int.injEq] at c
          omega
        subst hf0
        refine s_ret (v := .ref wy) e_var fun H2 e2 => kS way rfl wy H2 (e1.trans e2) ((e1.trans e2).k _ _ hw nt_lst)
      · obtain ⟨g, rfl⟩ : ∃ g, f = g + 1 := by
          cases f with
          | zero =>
            simp only [List.length_map, decide_eq_false_iff_not, V.int.injEq] at c
            omega
          | succ g => exact ⟨g, rfl⟩
        have hlt : way.length < l.length := by omega
        have bw : begun way ≤ 10000 := by
          rw [begun_max]
          split
          · omega
          · rename_i hn
            have : maxN way < 10000 := by
              rcases foldl_max_in way 0 with q | q
              · unfold maxN
                omega
              · exact hway _ q
            omega
        have hw1 := e1.k _ _ hw nt_lst
        have sh1 := sh.mono e1
        refine s_asg (v := nV (begun way)) (e_is (e_op (e_maxDef e_var hw1 (e_un e_c)) e_c rv_i0) (by
          show V.int _ = V.int _
          congr 1
          omega)) fun H2 e2 => ?_
        have hw2 := e2.k _ _ hw1 nt_lst
        have sh2 := sh1.mono e2
        have e12 := e1.trans e2
        have arg : EvVs (tCons (tCB (fun xs H Q => ∃ i j, xs = [.int i, .int j] ∧ Q (.int (if j < i then j else i)) H) (tCons (tOp (rI0 fun i j => .int (i + j)) (tVar 3) (tC (.int 1))) (tCons (tVar 2) tNil))) tNil) [some (.ref a), some (.ref wy), some (nV most), some (nV (begun way)), none, none] H2 [.int ((min (begun way + 1) most : Nat) : Int)] :=
          v_cons (e_cb (a_cons (e_op e_var e_c rv_i0) (a_cons e_var a_nil)) (by
            rintro _ H3 e3 ⟨_, rfl, _, rfl, rfl⟩ H4 e4 Q q
            refine ⟨_, _, rfl, ?_⟩
            have : (if (most : Int) < (begun way : Int) + 1 then (most : Int) else (begun way : Int) + 1) = ((min (begun way + 1) most : Nat) : Int) := by
              split <;> omega
            rw [this]
            exact q H4 (Xt.refl _))) v_nil
        refine s_forS (w_range arg (by omega)) (fun H3 i σ' H' => Xt H3 H' ∧ (∃ v4 v5, σ' = [some (.ref a), some (.ref wy), some (nV most), some (nV (begun way)), v4, v5]) ∧ ∀ j, j < i → (if takesB d l way j = true then fin d l most g (way ++ [j]) else none) = none)
          (fun H3 e3 => ⟨Xt.refl _, ⟨none, none, rfl⟩, fun j hj => absurd hj (Nat.not_lt_zero _)⟩) (fun H3 i σ' H' h => h.1) (fun H3 i σ' H' e3 hi h H5 e5 => ?_) (fun H3 σ' H' e3 h => ?_)
        · obtain ⟨e4, ⟨v4, v5, rfl⟩, prev⟩ := h
          have e25 := e3.trans (e4.trans e5)
          have hw5 := e25.k _ _ hw2 nt_lst
          have sh5 := sh2.mono e25
          have t : Ev (tMeth cSharing "takes" spTakes [] C8.E0 (tVar 0) (tCons (tVar 1) (tCons (tVar 4) tNil))) [some (.ref a), some (.ref wy), some (nV most), some (nV (begun way)), some (.int (i : Int)), v5] H5 (.bl (takesB d l way i)) :=
            e_meth (e_var) ((e12.trans e25).k _ _ h1 nt_ins) (shaF_m rfl rfl rfl) (a_cons e_var (a_cons e_var a_nil)) (by
              rintro _ H6 e6 ⟨_, rfl, _, rfl, rfl⟩ Q q
              exact ⟨a, wy, way, i, d, l, rfl, sh5.mono e6, e6.k _ _ hw5 nt_lst, hlt, hl, q⟩)
          have cand : ∀ b, (if takesB d l way i = true then fin d l most g (way ++ [i]) else none) = some b → fin d l most (g + 1) way = some b := fun b hb => firstSome_at hi prev hb
          refine s_whenL (t_b t) (fun c2 H6 e6 => ?_) fun c2 H6 e6 => ?_
          · rw [if_pos c2] at cand
            have lenW : (way ++ [i]).length + g = l.length := by rw [List.length_append]; simp; omega
            have inW : ∀ j ∈ way ++ [i], j < 10000 := fun j hj => by
              rw [List.mem_append, List.mem_singleton] at hj
              rcases hj with hj | rfl
              · exact hway j hj
              · omega
            have args : EvA (tCons (tOp rCat (tVar 1) (tLst (tCons (tVar 4) tNil))) (tCons (tVar 2) tNil)) [some (.ref a), some (.ref wy), some (nV most), some (nV (begun way)), some (.int (i : Int)), v5] H6 (fun vs H7 => ∃ p r, vs = .ref p :: r ∧ Nw H6 p ∧ H7 p = some (.lst (way.map nV ++ [nV i])) ∧ ∃ r', r = nV most :: r' ∧ r' = []) :=
              a_consN nt_lst (n_cat1 e_var (e6.k _ _ hw5 nt_lst) (n_lst (v_cons e_var v_nil) (by show 1 ≤ 100000; decide)) (by simp; omega)) (a_cons e_var a_nil)
            have sh6 := sh5.mono e6
            cases hfin : fin d l most g (way ++ [i]) with
            | none =>
              refine s_asg (v := .non) (e_meth e_var (((e12.trans e25).trans e6).k _ _ h1 nt_ins) (shaF_m rfl rfl rfl) args ?_) fun H7 e7 => ?_
              · rintro _ H7 e7 ⟨p, _, rfl, np, hp, _, rfl, rfl⟩ Q q
                exact ⟨a, p, way ++ [i], most, d, l, g, rfl, by omega, lenW, sh6.mono e7, by rw [hp, List.map_append] <;> rfl, hl, hmost, inW, fun _ => q, fun b hb => by rw [hfin] at hb; cases hb⟩
              · refine s_whenL (b := false) (t_test (e_op (x := .non) (y := .non) (z := .bl false) e_var e_c fun H8 _ Q q => ⟨rfl, q⟩)) (fun z => by cases z) fun _ H8 e8 => ?_
                refine ⟨(e4.trans e5).trans ((e6.trans e7).trans e8), ⟨_, _, rfl⟩, fun j hj => ?_⟩
                by_cases hji : j < i
                · exact prev j hji
                · rw [show j = i by omega, if_pos c2]
                  exact hfin
            | some b =>
              have hb := cand b hfin
              refine s_asgX (xs := b.map nV) (x_meth e_var (((e12.trans e25).trans e6).k _ _ h1 nt_ins) (shaF_m rfl rfl rfl) args ?_) fun p7 H7 e7 hp7 => ?_
              · rintro _ H7 e7 ⟨p, _, rfl, np, hp, _, rfl, rfl⟩ Q q
                refine ⟨a, p, way ++ [i], most, d, l, g, rfl, by omega, lenW, sh6.mono e7, by rw [hp, List.map_append] <;> rfl, hl, hmost, inW, fun hn => (by rw [hfin] at hn; cases hn), fun b' hb' p8 H8 e8 h8 => ?_⟩
                rw [hfin] at hb'
                cases hb'
                exact q p8 H8 e8 h8
              · refine s_whenL (b := true) (t_test (e_op (x := .ref p7) (y := .non) (z := .bl true) e_var e_c fun H8 _ Q q => ⟨rfl, q⟩)) (fun _ H8 e8 => ?_) fun z => by cases z
                exact s_ret (v := .ref p7) e_var fun H9 e9 => kS b hb p7 H9 ((e12.trans e25).trans ((e6.trans e7).trans (e8.trans e9))) ((e8.trans e9).k _ _ hp7 nt_lst)
          · refine ⟨(e4.trans e5).trans e6, ⟨_, _, rfl⟩, fun j hj => ?_⟩
            by_cases hji : j < i
            · exact prev j hji
            · rw [show j = i by omega, if_neg (by rw [c2]; simp)]
        · obtain ⟨e4, ⟨v4, v5, rfl⟩, prev⟩ := h
          exact s_ret e_c ((kN (firstSome_nil prev)).go (e12.trans (e3.trans e4)))
/-- the first way of all, for things that are loads alone -/
def spFirst : Sp := fun vs H Q _ => ∃ (a : Addr) (as : List Addr) (ys : List Kyk.Item) (d : Nat), vs = [.ref a, nV d] ∧ H a = some (.lst (as.map V.ref)) ∧ Things H as ys ∧ ys.length ≤ 8 ∧ ys ≠ [] ∧ OkL ys ∧ (∀ y ∈ ys, Kyk2.load d [pc y] = true) ∧
  ∀ k b, Kyk2.best d (ys.map pc) = some (k, b) → ∀ p H2, Xt H H2 → H2 p = some (.lst (b.map nV)) → Q (.ref p) H2
theorem ok_first (T : Txt K mg) (m_Sharing : C8.Mak P w K mg base 4 "Sharing" cSharing spSharingI []) (w_finished : C8.Met P w K mg base 12 cSharing "finished" (spFin 10) []) : C8.Cal P w K mg base 15 "first_way" spFirst [] := by
  have nd := (C8.fnScope_by sc_first_way).nd
  refine mkCal1 T.d_first_way T.m_first_way (fun _ _ _ _ _ _ us hl => match us, hl with | [_, _], _ => rfl) sc_first_way ?len fun cdv A outer s H vs Q E hr h => ⟨_, (pss_cons (ps_set (i := 2) nd rfl (Or.inl rfl) (C8.pe_mk m_Sharing hr (by decide) rfl (pa_cons (pv 0) (pa_cons (pv 1) pa_nil))))
      (pss_cons (ps_set (i := 3) nd rfl (Or.inl rfl) pe_int)
      (pss_cons (ps_set (i := 4) nd rfl (Or.inl rfl) (C8.pe_mt w_finished hr (by decide) (pv 2) (pa_cons (pe_lst pa_nil) (pa_cons (pv 3) pa_nil))))
      (pss_cons (ps_while PassesOwn.never (pt_cmpR op_isN (pv 4) pe_non (nomark _)) (pss_cons (ps_set (i := 3) nd rfl (Or.inl rfl) (pe_op op_add (pv 3) pe_int))
      (pss_one (ps_set (i := 4) nd rfl (Or.inl rfl) (C8.pe_mt w_finished hr (by decide) (pv 2) (pa_cons (pe_lst pa_nil) (pa_cons (pv 3) pa_nil)))))))
      (pss_one (ps_ret (pv 4))))))), ?body⟩
  case len =>
    rintro vs H Q E ⟨_, _, _, _, rfl, _⟩
    rfl
  case body =>
    obtain ⟨a, as, ys, d, rfl, h0, th, hlen, hne, ok, alone, k⟩ := h
    have hl : (ys.map pc).length = ys.length := List.length_map ..
    obtain ⟨kk, b, hbest, hk1, hkn, hfin, below, hblen, _, _, _⟩ := best_fin (d := d) (l := ys.map pc) (fun p hp => by
      obtain ⟨y, hy, rfl⟩ := List.mem_map.mp hp
      exact alone y hy) (by simpa using hne)
    have k := k kk b hbest
    refine s_asgR (post := fun p H1 => ShaAt H1 p d (ys.map pc)) (r_make (a_cons e_var (a_cons e_var a_nil)) ?_) fun sa H1 np e1 sh => ?_
    · rintro _ H1 e1 ⟨_, rfl, _, rfl, rfl⟩ p dx H2 Q2 np e2 hp fin2
      exact ⟨p, dx, a, as, ys, d, rfl, hp, (e1.trans e2).k _ _ h0 nt_lst, th.mono (e1.trans e2), by omega, ok, fin2⟩
    · obtain ⟨dx, wA, mA, ms, h1, h2, h3, h4, h5⟩ := sh.ex
      -- one try with most loads
      have tryN : ∀ {σ : L2.St} {H3 : Hp} {n : Nat}, Xt H1 H3 → σ[2]? = some (some (.ref sa)) → σ[3]? = some (some (nV n)) → n ≤ 8 → EvA (tCons (tLst tNil) (tCons (tVar 3) tNil)) σ H3 (fun vs H7 => ∃ p r, vs = .ref p :: r ∧ Nw H3 p ∧ H7 p = some (.lst []) ∧ ∃ r', r = nV n :: r' ∧ r' = []) :=
        fun {σ H3 n} e3 s2 s3 hn => a_consN nt_lst (n_lst v_nil (by show 0 ≤ 100000; decide)) (a_cons (e_var s3) a_nil)
      have none_ : ∀ {σ : L2.St} {H3 : Hp} {n : Nat}, Xt H1 H3 → σ[2]? = some (some (.ref sa)) → σ[3]? = some (some (nV n)) → n ≤ 8 → Wash.fin d (ys.map pc) n (ys.map pc).length [] = none → Ev (tMeth cSharing "finished" (spFin 10) [] C8.E0 (tVar 2) (tCons (tLst tNil) (tCons (tVar 3) tNil))) σ H3 .non :=
        fun {σ H3 n} e3 s2 s3 hn hf => e_meth (e_var s2) (e3.k _ _ h1 nt_ins) (shaF_m rfl rfl rfl) (tryN e3 s2 s3 hn) (by
          rintro _ H4 e4 ⟨p, _, rfl, np, hp, _, rfl, rfl⟩ Q q
          exact ⟨sa, p, [], n, d, ys.map pc, (ys.map pc).length, rfl, by omega, by simp, sh.mono (e3.trans e4), hp, by omega, by omega, fun i hi => (nomatch hi), fun _ => q, fun b hb => by rw [hf] at hb; cases hb⟩)
      have some_ : ∀ {σ : L2.St} {H3 : Hp}, Xt H1 H3 → σ[2]? = some (some (.ref sa)) → σ[3]? = some (some (nV kk)) → EvX (tMeth cSharing "finished" (spFin 10) [] C8.E0 (tVar 2) (tCons (tLst tNil) (tCons (tVar 3) tNil))) σ H3 (b.map nV) :=
        fun {σ H3} e3 s2 s3 => x_meth (e_var s2) (e3.k _ _ h1 nt_ins) (shaF_m rfl rfl rfl) (tryN e3 s2 s3 (by omega)) (by
          rintro _ H4 e4 ⟨p, _, rfl, np, hp, _, rfl, rfl⟩ Q q
          refine ⟨sa, p, [], kk, d, ys.map pc, (ys.map pc).length, rfl, by omega, by simp, sh.mono (e3.trans e4), hp, by omega, by omega, fun i hi => (nomatch hi), fun hn => (by rw [hfin] at hn; cases hn), fun b' hb' p8 H8 e8 h8 => ?_⟩
          rw [hfin] at hb'
          cases hb'
          exact q p8 H8 e8 h8)
      refine s_asg (v := nV 1) e_c fun H2 e2 => ?_
      -- what stands ahead of the loop's test
      have loop : ∀ (σ : L2.St) (H3 : Hp), (∃ n v, σ = [some (.ref a), some (nV d), some (.ref sa), some (nV n), some v] ∧ Xt H1 H3 ∧ 1 ≤ n ∧ n ≤ kk ∧ ((v = .non ∧ n < kk) ∨ ∃ p, v = .ref p ∧ n = kk ∧ H3 p = some (.lst (b.map nV)))) →
          tSeq (tWhile (tTest (tOp (fun x y H Q => y = .non ∧ Q (.bl (decide (x = .non))) H) (tVar 4) (tC .non))) (tSeq (tAsg (tOp (rI0 fun i j => .int (i + j)) (tVar 3) (tC (.int 1))) (gName 3)) (tAsg (tMeth cSharing "finished" (spFin 10) [] C8.E0 (tVar 2) (tCons (tLst tNil) (tCons (tVar 3) tNil))) (gName 4)))) (tRet (tVar 4)) { nx := fun _ H' => Q .non H', rt := Q } σ H3 := by
        intro σ H3 h
        refine ⟨fun m σ H3 => ∃ n v, m = kk - n ∧ σ = [some (.ref a), some (nV d), some (.ref sa), some (nV n), some v] ∧ Xt H1 H3 ∧ 1 ≤ n ∧ n ≤ kk ∧ ((v = .non ∧ n < kk) ∨ ∃ p, v = .ref p ∧ n = kk ∧ H3 p = some (.lst (b.map nV))), ?_, ?_⟩
        · obtain ⟨n, v, h⟩ := h
          exact ⟨kk - n, n, v, rfl, h⟩
        · rintro m σ H3 ⟨n, v, rfl, rfl, e3, hn1, hnk, hv⟩
          rcases hv with ⟨rfl, hlt⟩ | ⟨p, rfl, hnk2, hp⟩
          · refine t_test (e_op (x := .non) (y := .non) (z := .bl true) e_var e_c fun H8 _ Q q => ⟨rfl, q⟩) H3 (Xt.refl _) _ fun H4 e4 => ?_
            rw [if_pos rfl]
            refine ⟨fun σ' H' => ∃ n' v, σ' = [some (.ref a), some (nV d), some (.ref sa), some (nV n'), some v] ∧ Xt H1 H' ∧ n' = n + 1 ∧ n' ≤ kk ∧ ((v = .non ∧ n' < kk) ∨ ∃ p, v = .ref p ∧ n' = kk ∧ H' p = some (.lst (b.map nV))), fun σ' H' h => ?_, ?_⟩
            · obtain ⟨n', v, h1, h2, h3, h4, h5⟩ := h
              exact ⟨kk - n', by omega, n', v, rfl, h1, h2, by omega, h4, h5⟩
            · refine s_asg (v := nV (n + 1)) (e_op e_var e_c rv_i0) fun H5 e5 => ?_
              have e15 := e3.trans (e4.trans e5)
              by_cases hk2 : n + 1 < kk
              · exact none_ e15 rfl rfl (by omega) (below _ hk2) H5 (Xt.refl _) _ fun H6 e6 => ⟨n + 1, .non, rfl, e15.trans e6, rfl, by omega, .inl ⟨rfl, hk2⟩⟩
              · have : n + 1 = kk := by omega
                subst this
                exact some_ e15 rfl rfl H5 (Xt.refl _) _ fun p H6 e6 hp => ⟨n + 1, .ref p, rfl, e15.trans e6, rfl, by omega, .inr ⟨p, rfl, rfl, hp⟩⟩
          · refine t_test (e_op (x := .ref p) (y := .non) (z := .bl false) e_var e_c fun H8 _ Q q => ⟨rfl, q⟩) H3 (Xt.refl _) _ fun H4 e4 => ?_
            rw [if_neg Bool.false_ne_true]
            dsimp only
            exact s_ret (v := .ref p) e_var fun H5 e5 => k p H5 ((e1.trans e3).trans (e4.trans e5)) ((e4.trans e5).k _ _ hp nt_lst)
      by_cases hk2 : 1 < kk
      · exact s_asg (none_ e2 rfl rfl (by omega) (below _ hk2)) fun H3 e3 => loop _ H3 ⟨1, .non, rfl, e2.trans e3, Nat.le_refl _, by omega, .inl ⟨rfl, hk2⟩⟩
      · have : kk = 1 := by omega
        subst this
        exact s_asgX (some_ e2 rfl rfl) fun p H3 e3 hp => loop _ H3 ⟨1, .ref p, rfl, e2.trans e3, Nat.le_refl _, Nat.le_refl _, .inr ⟨p, rfl, rfl, hp⟩⟩
end
end Wash
/-! sorted(numbers, key=lambda i: ..), where the lambda calls a method of its own: the sort runs while the heap grows. -/
namespace Wash
open PySem PySem.Spec PyProof.Rows L2 NdefX
open PySem.W (EachIs)
def tSortBy (js : List Nat) (N : List Str) (t : TA) (tb : TE) : TE := fun σ H Q => t σ H fun vs H1 => ∃ (a : Addr) (ns : List Int) (key : Int → Int), vs = [.ref a] ∧ H1 a = some (.lst (ns.map V.int)) ∧ ns.length ≤ 50000 ∧ Tb H1 ∧
  (∀ n ∈ ns, ∀ H2, Xt H1 H2 → ∀ Q' : VK, RetV (.int (key n)) H2 Q' → tb (NdefX.startF N [.int n] (js.map (NdefX.slotAt σ))) H2 Q') ∧
  ∀ p H2, Nw H1 p → Xt H1 H2 → H2 p = some (.lst ((ns.mergeSort fun a b => decide (key a ≤ key b)).map V.int)) → Q (.ref p) H2
theorem nt_code {c : Addr} {q : Str} : NT (LamX.CodeO c q) := fun _ h => by
  unfold LamX.CodeO at h
  cases h
def IntIs (v : Value) (n : Int) : Prop := ∃ t, v = .int n t
theorem each_ints : ∀ {ns : List Int} {its : List Value}, Vals (ns.map V.int) its → EachIs IntIs its ns
  | [], its, h => by
    have h' : Vals [] its := h
    cases h'
    exact .nil
  | n :: ns, its, h => by
    have h' : Vals (V.int n :: ns.map V.int) its := h
    cases h' with
    | cons r1 r2 => exact .cons r1 (each_ints r2)
theorem ints_each : ∀ {ns : List Int} {its : List Value}, EachIs IntIs its ns → Vals (ns.map V.int) its
  | [], _, .nil => .nil
  | n :: ns, _, .cons h t => .cons h (ints_each t)
theorem each_add {v : Value} {n : Int} : ∀ {its : List Value} {ns : List Int}, EachIs IntIs its ns → IntIs v n → EachIs IntIs (its ++ [v]) (ns ++ [n])
  | _, _, .nil, h => .cons h .nil
  | _, _, .cons a t, h => .cons a (each_add t h)
theorem each_rd {h : Heap} : ∀ {its : List Value} {ns : List Int}, EachIs IntIs its ns → EachIs (fun v d => ∃ as, Reads h v d as) its (ns.map PyData.int)
  | _, _, .nil => .nil
  | _, _, .cons ⟨t, e⟩ r => .cons ⟨[], by rw [e]; exact .int _ _⟩ (each_rd r)
section
variable {X : Cx} {c : Addr} {N fr : List Str} {i0 : Str} {js : List Nat} {k : Nat} {e : Expr} {es : List Expr} {t : TA} {tb : TE} {params : Arguments} {body : Expr} {scope : Scope} {p kpos lpos pos : Pos}
theorem frs_of (hst : X.stack = X.env :: X.outer ∧ X.env.frame = some X.env.locals) {b : Addr} (h : b ∉ frs X.stack) : b ≠ X.env.locals ∧ b ∉ X.fs := by
  have e : frs X.stack = X.env.locals :: X.fs := by
    rw [hst.1]
    unfold frs
    rw [List.filterMap_cons, hst.2] <;> rfl
  rw [e] at h
  exact ⟨fun z => h (by rw [z]; exact List.mem_cons_self), fun z => h (List.mem_cons_of_mem _ z)⟩
abbrev srtPins (a kS f : Addr) (e1 : Nat) (kA : Array Value) (e2 : Nat) (fo : Obj) : List (Addr × Obj) := [(a, seqObj "list" #[] e1), (kS, seqObj "list" kA e2), (f, fo)]
theorem repin {pins : List (Addr × Obj)} {σ : L2.St} {H H2 : Hp} {s : Shared} {a kS f : Addr} {e1 e2 : Nat} {kA : Array Value} {fo : Obj} (I : Inv X pins σ H s) (fa : FpOk X pins H2 a) (fk : FpOk X pins H2 kS) (ff : f ≠ X.env.locals ∧ f ∉ X.fs)
    (ha : s.heap.get? a = some (seqObj "list" #[] e1)) (hk : s.heap.get? kS = some (seqObj "list" kA e2)) (hf : s.heap.get? f = some fo) (fd : ∀ v, fo.data ≠ .cell v) (na : H a = none) (nk : H kS = none) (nf : H f = none) : Inv X (pins ++ srtPins a kS f e1 kA e2 fo) σ H s :=
  I.pins_of fun q hq => by
    rcases List.mem_append.mp hq with z | z
    · exact I.pin q (List.mem_append_right _ z)
    · simp only [srtPins, List.mem_cons, List.not_mem_nil, or_false] at z
      rcases z with rfl | rfl | rfl
      · exact ⟨ha, na, fa.2.1, fa.2.2.1, fun v z => by cases z⟩
      · exact ⟨hk, nk, fk.2.1, fk.2.2.1, fun v z => by cases z⟩
      · exact ⟨hf, nf, ff.1, ff.2, fd⟩
/-- what the lambda answers, called in the sort -/
theorem lam_turn {pins : List (Addr × Obj)} {σ : L2.St} {H : Hp} {s : Shared} {f c' : Addr} {pm ctv : Value} {n : Int} {v : Value} {Q : VK} {E : Value → Shared → Prop} (I : Inv X pins σ H s) (S : NScope N [i0] fr scope)
    (hfree : ∀ y ∈ scope.names, y.2 = .free → X.env.scope.names.lookup y.1 = some .cell ∨ X.env.scope.names.lookup y.1 = some .free) (hfr : ∀ y ∈ fr, (y, NameKind.free) ∈ scope.names) (hjs : js.map (fun j => X.N[j]?) = fr.map some)
    (of1 : s.heap.get? f = some (PySem.W.kla_obj "<lambda>" qLam params body scope (cloFrom X.env.cells scope.names []) pm c' ctv)) (hc : H c' = some (LamX.CodeO c' qLam)) (hr : Room (k + 3) X.A)
    (hbind : ∀ (cl : List (Str × Addr)) (pm cv ctv : Value) (u : Value), bindArgs (PySem.W.kla_fn "<lambda>" qLam params body scope cl pm cv ctv) ⟨[u], []⟩ = pure [(i0, u)])
    (hbody : ∀ (A : Around) (outer : List Env) (s : Shared) (H : Hp) (F : NF) (f : Addr), F.scope = scope → Room k (A.deeper (envF F f s.heap.objs.size)) → PE (ncx C8.CX0 X.prog X.w X.K X.mg X.base N F f A outer s H C8.E0) body tb)
    (hv : IntIs v n) (q : tb (startF N [.int n] (js.map (slotAt σ))) H Q) :
    wpAny (model X.prog X.w) X.A.in1.in1 (call (.ref f) [v]) (EP X pins σ Q) E s := by
  have hr1 : Room (k + 1) X.A.in1.in1 := hr.in1.in1
  have e0 : Env0 X.prog X.w X.K X.mg X.base X.A.in1.in1 X.stack s H := I.env0.in1.in1
  obtain ⟨tok, rfl⟩ := hv
  have C := cells_of I (Caps.made I.ok hfree hfr hjs)
  obtain ⟨⟨oc, vs, tt, hoc, hdc, hvc⟩, _, _⟩ := I.hok c' _ hc
  have rc : codeAny (model X.prog X.w) X.A.in1.in1 (.call (.ref f) ⟨[.int n tok], []⟩) (CR C8.CX0 X.stack X.prog X.w H s Q C8.E0) s := by
    refine PySem.W.kla_callFunE hr1.depth of1 rfl S.co S.gen rfl ⟨c', oc, vs, tt, rfl, hoc, hdc, hvc⟩ ?_
    rw [hbind]
    refine wpAny_pure (wpAny_newFunctionEnv S.nocell (fun y hy => ?_) (fun h₁ hns hsb => ⟨I.nolimit.fresh _ hsb, ?_⟩) S.kind)
    · have e : y = (i0, .int n tok) := by simpa using hy
      rw [e]
      exact S.par i0 (by simp)
    have kp : ∀ b o, s.heap.get? b = some o → h₁.get? b = some o := fun b o e => hsb.extBut b o (Nat.ne_of_lt (Heap.lt_size e)) (Heap.get?_push_of_some _ e)
    show codeAny _ _ (.expr body (envF ⟨"<lambda>", qLam, params, [], scope, cloFrom X.env.cells scope.names [], c'⟩ f s.heap.objs.size)) _ _
    have J := inv_startN (F := ⟨"<lambda>", qLam, params, [], scope, cloFrom X.env.cells scope.names [], c'⟩) (f := f) (CX := C8.CX0) (E := C8.E0) (tk := s.toks + ([(i0, Value.int n tok)] : List (Str × Value)).length) (vs := [.int n]) (us := [.int n tok]) S hr1.hd e0 rfl (.cons ⟨_, rfl⟩ .nil) C hns kp
    refine PySem.W.kla_codeExpr (wpAny_mono ((hbody _ _ s H ⟨"<lambda>", qLam, params, [], scope, cloFrom X.env.cells scope.names [], c'⟩ f rfl (hr1.deeper _)).run [] _ _ H Q J q) (fun u s' hq => ?_) fun e s' hq => hq)
    obtain ⟨w', H', J', rv, q'⟩ := hq
    exact ⟨w', H', J'.os, J'.bare, J'.base, J'.hok, rv, q'⟩
  refine wpAny_call (codeAny_mono rc fun r s' hq => ?_)
  cases r with
  | error e => exact (show False from hq).elim
  | ok fl =>
    cases fl with
    | ret u => exact I.after hq
    | next => exact (show False from hq).elim
    | brk => exact (show False from hq).elim
    | cont => exact (show False from hq).elim
theorem bld_sorted : bootBuiltins "sorted" = some (.builtin "sorted") := by rfl
/-- the sort itself, its list made -/
theorem sort_run {pins : List (Addr × Obj)} {σ : L2.St} {H2 : Hp} {s2 : Shared} {f c' : Addr} {pm ctv : Value} {ns : List Int} {its : List Value} {key : Int → Int} {Q : VK} {E : Value → Shared → Prop} (I2 : Inv X pins σ H2 s2) (S : NScope N [i0] fr scope)
    (hst : X.stack = X.env :: X.outer ∧ X.env.frame = some X.env.locals)
    (hfree : ∀ y ∈ scope.names, y.2 = .free → X.env.scope.names.lookup y.1 = some .cell ∨ X.env.scope.names.lookup y.1 = some .free) (hfr : ∀ y ∈ fr, (y, NameKind.free) ∈ scope.names) (hjs : js.map (fun j => X.N[j]?) = fr.map some)
    (of1 : s2.heap.get? f = some (PySem.W.kla_obj "<lambda>" qLam params body scope (cloFrom X.env.cells scope.names []) pm c' ctv)) (nf : H2 f = none) (hfs : f ∉ frs X.stack) (hc : H2 c' = some (LamX.CodeO c' qLam)) (hr : Room (k + 3) X.A)
    (hbind : ∀ (cl : List (Str × Addr)) (pm cv ctv : Value) (u : Value), bindArgs (PySem.W.kla_fn "<lambda>" qLam params body scope cl pm cv ctv) ⟨[u], []⟩ = pure [(i0, u)])
    (hbody : ∀ (A : Around) (outer : List Env) (s : Shared) (H : Hp) (F : NF) (f : Addr), F.scope = scope → Room k (A.deeper (envF F f s.heap.objs.size)) → PE (ncx C8.CX0 X.prog X.w X.K X.mg X.base N F f A outer s H C8.E0) body tb)
    (hv : Vals (ns.map V.int) its) (hl : ns.length ≤ 50000) (turn : ∀ n ∈ ns, ∀ H, Xt H2 H → ∀ Q' : VK, RetV (.int (key n)) H Q' → tb (startF N [.int n] (js.map (slotAt σ))) H Q')
    (q : ∀ H, H2 (s2.heap.objs.size + 1) = none → Xt H2 H → H (s2.heap.objs.size + 1) = some (.lst ((ns.mergeSort fun a b => decide (key a ≤ key b)).map V.int)) → Q (.ref (s2.heap.objs.size + 1)) H) :
    wpAny (model X.prog X.w) X.A.in1.in1 (Builtin.«list.sort» ⟨[.ref (s2.heap.objs.size + 1)], [(Str.ofString "key", .ref f)]⟩) (fun r s' => r = .done (.ret .none) ∧ EP X pins σ Q (.ref (s2.heap.objs.size + 1)) s') E { s2 with heap := PySem.W.copyHeap s2.heap its } := by
  have eI := each_ints hv
  have lenI : its.length = ns.length := eI.length
  have zI : its.length ≤ sizeLine := by
    rw [lenI]
    exact szl (by omega)
  generalize hA : s2.heap.objs.size + 1 = a at q ⊢
  have h3 : (PySem.W.copyHeap s2.heap its).get? a = some (seqObj "list" its.toArray 0) := by
    rw [← hA]
    exact PySem.W.copyHeap_at s2.heap its
  obtain ⟨e1, h3e⟩ : ∃ e1, ((PySem.W.copyHeap s2.heap its).update a (Obj.mapSeq fun _ => (#[] : Array Value))).get? a = some (seqObj "list" #[] e1) := ⟨_, get?_update_seq h3 fun _ => #[]⟩
  rw [ksk_t1]
  unfold ksk_tree
  refine wpAny_bind (listItems_at (s := { s2 with heap := PySem.W.copyHeap s2.heap its }) h3 rfl (wpAny_bind (listUpdate_at h3 rfl ?_ (by rw [List.size_toArray]; exact zI) (Nat.zero_le _))))
  refine wpAny_bind (seqEpoch_at h3e rfl (wpAny_bind (wpAny_newTuple (wpAny_bind (wpAny_newList (wpAny_holding ?_) (Nat.zero_le _))) zI)))
  generalize hK : (((PySem.W.copyHeap s2.heap its).update a (Obj.mapSeq fun _ => (#[] : Array Value))).push (seqObj "tuple" its.toArray 0)).objs.size = kS
  generalize hS : (((PySem.W.copyHeap s2.heap its).update a (Obj.mapSeq fun _ => (#[] : Array Value))).push (seqObj "tuple" its.toArray 0)).push (seqObj "list" #[] 0) = g
  have ltA : s2.heap.objs.size ≤ a := by omega
  have ltK : a < kS := by
    rw [← hK, Heap.size_push, Heap.size_update]
    exact Nat.lt_succ_of_lt (Heap.lt_size h3)
  have kA : kS ≠ a := Nat.ne_of_gt ltK
  have old : ∀ b o, s2.heap.get? b = some o → g.get? b = some o := fun b o e => by
    rw [← hS, ← hA]
    exact PySem.W.sorting_copy_old e
  have g_a : g.get? a = some (seqObj "list" #[] e1) := by
    rw [← hS]
    exact Heap.get?_push_of_some _ (Heap.get?_push_of_some _ h3e)
  have g_k : g.get? kS = some (seqObj "list" #[] 0) := by
    rw [← hS, ← hK]
    exact Heap.get?_push_size _ rfl
  have nA : H2 a = none := I2.hok.fresh ltA
  have nK : H2 kS = none := I2.hok.fresh (by omega)
  have fA : FpOk X pins H2 a := I2.fpOk ltA nA
  have fK : FpOk X pins H2 kS := I2.fpOk (by omega) nK
  have ff := frs_of hst hfs
  have fa : f ≠ a := fun z => by
    have := Heap.lt_size of1
    rw [z] at this
    exact Nat.lt_irrefl _ (Nat.lt_of_lt_of_le this ltA)
  have fk : f ≠ kS := fun z => by
    have := Heap.lt_size of1
    rw [z] at this
    exact Nat.lt_irrefl _ (Nat.lt_of_lt_of_le this (Nat.le_trans ltA (Nat.le_of_lt ltK)))
  have I4 : Inv X pins σ H2 { s2 with heap := g } := I2.kept old
  show wpAny (model X.prog X.w) X.A.in1.in1 (ksk_rest a (.ref f) false its.toArray e1 (.ref kS)) _ E { s2 with heap := g }
  unfold ksk_rest
  refine wpAny_bind (wpAny_rule ?_)
  rw [List.forIn_toArray]
  refine wpAny_bind (ksk_fold (fun i s' => ∃ H kk e2, Inv X (pins ++ srtPins a kS f e1 kk e2 (PySem.W.kla_obj "<lambda>" qLam params body scope (cloFrom X.env.cells scope.names []) pm c' ctv)) σ H s' ∧ Xt H2 H ∧ EachIs IntIs kk.toList ((ns.map key).take i)) its 0 { s2 with heap := g }
    ⟨H2, #[], 0, repin I4 fA fK ff g_a g_k (old _ _ of1) (fun v z => by cases z) nA nK nf, Xt.refl H2, by rw [List.take_zero]; exact .nil⟩ ?turn ?done)
  case turn =>
    rintro j x s' hx ⟨H, kk, e2, I, eH, hk⟩
    rw [Nat.zero_add] at hk ⊢
    have hj : j < ns.length := by
      rw [← lenI]
      exact (List.getElem?_eq_some_iff.mp hx).1
    have hn : ns[j]? = some ns[j] := List.getElem?_eq_getElem hj
    have hxn : IntIs x ns[j] := eI.zip (x, ns[j]) (List.mem_of_getElem? (i := j) (by rw [List.getElem?_zip_eq_some]; exact ⟨hx, hn⟩))
    have zk : kk.size ≤ ns.length := by
      have h1 := hk.length
      rw [Array.length_toList, List.length_take, List.length_map] at h1
      omega
    have zL : ns.length ≤ sizeLine := szl (by omega)
    have pf := I.pin (f, _) (List.mem_append_right _ (List.mem_append_right _ (List.mem_cons_of_mem _ (List.mem_cons_of_mem _ List.mem_cons_self))))
    refine wpAny_bind (wpAny_attempt (wpAny_mono (lam_turn (Q := fun v H' => v = .int (key ns[j]) ∧ Xt H H') (E := fun _ _ => False) I S hfree hfr hjs pf.1 (eH.k _ _ hc nt_code) hr hbind hbody hxn (turn _ (List.mem_of_getElem? hn) H eH _ fun H' e => ⟨rfl, e⟩)) (fun u s'' he => ?_) fun _ _ z => z.elim))
    obtain ⟨v, H', I', rv, rfl, eH'⟩ := he
    obtain ⟨tk, rfl⟩ := rv
    have pa := I'.pin (a, _) (List.mem_append_right _ (List.mem_append_right _ (List.mem_cons_self)))
    have pk := I'.pin (kS, _) (List.mem_append_right _ (List.mem_append_right _ (List.mem_cons_of_mem _ List.mem_cons_self)))
    have pf' := I'.pin (f, _) (List.mem_append_right _ (List.mem_append_right _ (List.mem_cons_of_mem _ (List.mem_cons_of_mem _ List.mem_cons_self))))
    have sb := Heap.SameBut.update s''.heap kS (Obj.mapSeq (·.push (Value.int (key ns[j]) tk)))
    obtain ⟨c2, hc2⟩ : ∃ c2, (s''.heap.update kS (Obj.mapSeq (·.push (Value.int (key ns[j]) tk)))).get? kS = some (seqObj "list" (kk.push (Value.int (key ns[j]) tk)) c2) := ⟨_, get?_update_seq pk.1 (·.push _)⟩
    refine wpAny_bind (listUpdate_at pk.1 rfl (wpAny_pure ⟨rfl, H', kk.push (Value.int (key ns[j]) tk), c2, ?_, eH.trans eH', ?_⟩) (Nat.le_trans zk zL) (Nat.le_trans (Nat.le_of_eq (Array.size_push ..)) (Nat.succ_le_succ (Nat.le_trans zk zL))))
    · have J := Inv.turnedL (ch := [kS]) (t' := s''.toks) (h' := s''.heap.update kS (Obj.mapSeq (·.push (Value.int (key ns[j]) tk)))) I'.unpinned (fun b o nb e => (sb.2 b (fun z => nb (by simp [z]))).trans e) (fun b hb => by
        have eb : b = kS := by simpa using hb
        rw [eb]
        exact ⟨pk.2.1, fK.2⟩)
      exact repin J fA fK ff ((sb.2 a (Ne.symm kA)).trans pa.1) hc2 ((sb.2 f fk).trans pf'.1) (fun v z => by cases z) pa.2.1 pk.2.1 pf'.2.1
    · have e3 : (ns.map key).take (j + 1) = (ns.map key).take j ++ [key ns[j]] := by
        rw [List.take_add_one, List.getElem?_map, hn] <;> rfl
      rw [e3, show (kk.push (Value.int (key ns[j]) tk)).toList = kk.toList ++ [Value.int (key ns[j]) tk] by simp]
      exact each_add hk ⟨tk, rfl⟩
  case done =>
    rintro s' ⟨H, kk, e2, I, eH, hk⟩
    have hk' : EachIs IntIs kk.toList (ns.map key) := by
      rw [List.take_of_length_le (by rw [List.length_map]; omega)] at hk
      exact hk
    have zk : kk.size = its.length := by
      have h1 := hk'.length
      rw [Array.length_toList, List.length_map] at h1
      omega
    have pa := I.pin (a, _) (List.mem_append_right _ (List.mem_append_right _ (List.mem_cons_self)))
    have pk := I.pin (kS, _) (List.mem_append_right _ (List.mem_append_right _ (List.mem_cons_of_mem _ List.mem_cons_self)))
    have J := I.unpinned
    have ek : (ns.map key).map PyData.int = ns.map fun n => PyData.int (key n) := by rw [List.map_map] <;> rfl
    have hd : EachIs (fun v d => ∃ as, Reads s'.heap v d as) kk.toList (ns.map fun n => PyData.int (key n)) := by
      rw [← ek]
      exact each_rd hk'
    have al : PySem.W.AllAlike (ns.map fun n => PyData.int (key n)) := PySem.W.AllAlike.of fun _ _ => rfl
    have so : PySem.W.Sortable (ns.map fun n => PyData.int (key n)) := PySem.W.Sortable.others fun _ => ⟨fun z => (by cases z), fun xs z => (by cases z)⟩
    refine wpAny_bind (listItems_at pk.1 rfl ?_)
    refine PySem.W.keyH_end (κ := PySem.W.dataKind s'.heap (ns.map fun n => PyData.int (key n))) (h₁ := PySem.W.hideAll s'.heap [kS]) (fun b o nb e => PySem.W.of_hideAll _ e) (PySem.W.hideAll_none _ List.mem_cons_self) pk.1 pa.1 kA (PySem.W.SortsAt.data hd al so fun d hd => ?_) zk zI fun h' tk cc kp hD => ⟨rfl, ?_⟩
    · obtain ⟨n, _, rfl⟩ := List.mem_map.mp hd
      exact hr.in1.in1.units0
    · have KO : PySem.W.KeyedOut false (ns.map fun n => PyData.int (key n)) its (PySem.W.sortVals (PySem.W.dataKind s'.heap (ns.map fun n => PyData.int (key n))) false kk.toList its) := ⟨s'.heap, kk.toList, al, rfl, hd⟩
      have out := PySem.W.keyedOut_each (fun n => PyData.int (key n)) KO eI
      rw [PySem.W.dataLe_int] at out
      have J1 := Inv.turnedL (ch := [a, kS]) (t' := tk) (h' := h') J (fun b o nb e => kp b o (fun z => nb (by simp [z])) (PySem.W.hideAll_get _ e fun z => nb (List.mem_cons_of_mem _ z))) (fun b hb => by
        simp only [List.mem_cons, List.not_mem_nil, or_false] at hb
        rcases hb with rfl | rfl
        · exact ⟨pa.2.1, fA.2⟩
        · exact ⟨pk.2.1, fK.2⟩)
      have lenO : (ns.mergeSort fun a b => decide (key a ≤ key b)).length = ns.length := List.length_mergeSort _
      have J2 := Inv.take (it := a) (t' := tk) (h' := h') (o := .lst ((ns.mergeSort fun a b => decide (key a ≤ key b)).map V.int)) J1 (fun _ _ _ e => e) ⟨pa.2.1, fA.2⟩ ⟨szl (by rw [List.length_map, lenO]; omega), _, cc, ints_each out, hD⟩
      exact ⟨.ref a, _, J2, rfl, q _ nA (eH.trans (Xt.new pa.2.1)) upd_same⟩
theorem pe_sortBy (hst : X.stack = X.env :: X.outer ∧ X.env.frame = some X.env.locals) (hg : Gl X "sorted") (hm : X.mg "sorted" = none) (ha : PA X (e :: es) t) (TB : LamX.TabB X.base X.mg c tabP) (hcode : X.env.code = .ref c) (hq : X.env.qual ++ "<lambda>" = qLam) (S : NScope N [i0] fr scope)
    (hfree : ∀ y ∈ scope.names, y.2 = .free → X.env.scope.names.lookup y.1 = some .cell ∨ X.env.scope.names.lookup y.1 = some .free) (hfr : ∀ y ∈ fr, (y, NameKind.free) ∈ scope.names) (hjs : js.map (fun j => X.N[j]?) = fr.map some)
    (hdef : defaultsOf params X.env = ([], [])) (hr : Room (k + 3) X.A)
    (hbind : ∀ (cl : List (Str × Addr)) (pm cv ctv : Value) (u : Value), bindArgs (PySem.W.kla_fn "<lambda>" qLam params body scope cl pm cv ctv) ⟨[u], []⟩ = pure [(i0, u)])
    (hbody : ∀ (A : Around) (outer : List Env) (s : Shared) (H : Hp) (F : NF) (f : Addr), F.scope = scope → Room k (A.deeper (envF F f s.heap.objs.size)) → PE (ncx C8.CX0 X.prog X.w X.K X.mg X.base N F f A outer s H C8.E0) body tb)
    (he : backTo pos (starEach (e :: es) X.env) = (false, eval e X.env) :: backTo pos (starEach es X.env) := by rfl) (hpl : (backTo pos (starEach (e :: es) X.env)).any (·.1) = false := by rfl) :
    PE X (.Call (.Name "sorted" p) (e :: es) [⟨some "key", .Lambda params body scope lpos, kpos⟩] pos) (tSortBy js N t tb) := by
  refine ⟨fun pins s σ H Q I h => ?_⟩
  refine wpAny_Call_Name_kw (ld_blt I hg hm bld_sorted ?_)
  refine PyProof.Rows.callWith_kw (thn (ha.run pos pins s σ H _ I h) fun us s1 hu => ?_) he hpl (by rfl) (by rfl)
  obtain ⟨vs, H1, I1, r1, a, ns, key, rfl, hl, hz, hT, turn, q⟩ := hu
  show wpAny _ _ (evalAll ((do let v ← eval (.Lambda params body scope lpos) X.env; standAt pos; pure v) :: (backToKw pos (keywordEach [] X.env)).map (·.2))) _ _ s1
  have hf2 : ∀ y ∈ scope.names, y.2 = .free → ∃ c, X.env.cells.lookup y.1 = some c := fun y hy e => (hfree y hy e).elim (fun z => I.ok.has _ (.inl z)) fun z => I.ok.has _ (.inr z)
  refine wpAny_evalAll_cons (wpAny_bind (LamX.lam_make2 (T := [(tabP, qLam)]) I1 TB hcode (by rw [hq]; simp) (fun p hp _ => by rw [hq]; have := List.mem_singleton.mp hp; rw [this]) (fun p hp => by have := List.mem_singleton.mp hp; rw [this]; exact hT) hdef hf2 fun f c' pm ctv H2 s2 I2 eN T2 hfo hfn hfs hco => wpAny_bind (wpAny_standAt (wpAny_pure (wpAny_evalAll_nil ?_)))))
  rw [hq] at hfo hco
  have e12 : Xt H1 H2 := ⟨fun b o h n => eN b o h n, fun _ => T2 _ (List.mem_singleton.mpr rfl)⟩
  cases r1 with
  | cons ra r0 =>
    cases r0
    obtain rfl := ra
    obtain ⟨zz, its, n, rv, _, ho⟩ := I2.lstM (e12.k _ _ hl nt_lst)
    show wpAny _ _ (call (.builtin "sorted") [.ref a] [(Str.ofString "key", .ref f)]) _ _ s2
    refine PySem.W.sorted_of_sort (vs := its) ⟨_, ho, rfl, _, rfl⟩ ?_ (ksk_s1 _ _) (fun x => ksk_l1 _ _) fun E' => ?_
    · have := (each_ints rv).length
      rw [this]
      exact szl (by omega)
    · exact sort_run I2 S hst hfree hfr hjs hfo hfn hfs hco hr hbind hbody rv hz (fun n hn H' e' => turn n hn H' (e12.trans e')) fun H' nn e' hp => q _ H' (.back e12 (.of nn)) (e12.trans e') hp
end
end Wash
/-! The laundry in the heap. Places as they are told of a thing alone: 0, 1, 2. -/
namespace Wash
open PySem PySem.Spec PyProof.Rows L2
/-! ### 1. places set -/
def setP (p : Nat) (y : Kyk.Item) : Kyk.Item := { y with place := p }
def placedL (items : List Kyk.Item) (l : List Nat) (p : Nat) : List Kyk.Item := l.foldl (fun its i => its.modify i (setP p)) items
theorem placedL_len (p : Nat) : ∀ (l : List Nat) (items : List Kyk.Item), (placedL items l p).length = items.length
  | [], _ => rfl
  | i :: l, items => by
    show (placedL (items.modify i (setP p)) l p).length = _
    rw [placedL_len p l, List.length_modify]
theorem placedL_get (p : Nat) : ∀ (l : List Nat) (items : List Kyk.Item) (j : Nat), (placedL items l p)[j]? = items[j]?.map fun y => if l.contains j then setP p y else y
  | [], items, j => by
    show items[j]? = _
    cases items[j]? <;> rfl
  | i :: l, items, j => by
    show (placedL (items.modify i (setP p)) l p)[j]? = _
    rw [placedL_get p l, List.getElem?_modify]
    by_cases e : i = j
    · subst e
      cases items[i]? with
      | none => rfl
      | some y =>
        simp only [Option.map_some, List.contains_cons, beq_self_eq_true, Bool.true_or, if_true]
        split <;> rfl
    · cases items[j]? with
      | none => simp
      | some y =>
        have n : ¬ j = i := fun z => e z.symm
        simp [e, n]
theorem placed_get (p : Nat) (l : List Nat) (items : List Kyk.Item) (j : Nat) : (Kyk.placed items l p)[j]? = items[j]?.map fun y => if l.contains j then setP p y else y := by
  unfold Kyk.placed
  rw [List.getElem?_map]
  by_cases h : j < items.length
  · rw [List.getElem?_range h, List.getElem?_eq_getElem h]
    simp only [Option.map_some, List.getD_eq_getElem?_getD, List.getElem?_eq_getElem h, Option.getD_some]
    rfl
  · rw [List.getElem?_eq_none (by rw [List.length_range]; omega), List.getElem?_eq_none (by omega)]
    rfl
theorem placed_eq (items : List Kyk.Item) (l : List Nat) (p : Nat) : placedL items l p = Kyk.placed items l p := List.ext_getElem? fun j => by rw [placedL_get, placed_get]
theorem placed_len (items : List Kyk.Item) (l : List Nat) (p : Nat) : (Kyk.placed items l p).length = items.length := by rw [← placed_eq, placedL_len]
theorem placedL_snoc (items : List Kyk.Item) (l : List Nat) (i p : Nat) : placedL items (l ++ [i]) p = (placedL items l p).modify i (setP p) := by
  unfold placedL
  rw [List.foldl_append]
  rfl

/-! ### 2. the objects -/
structure Hm where
  p : Addr
  dx : Addr
  m : Addr
  o : Addr
  t : Addr
  ms : List Addr
  os : List Addr
  ts : List Addr
  ls : List Addr
def houF (price till now : Int) (m o t : Addr) : List (Str × V) := [("price", .int price), ("till", .int till), ("now", .int now), ("machines", .ref m), ("orders", .ref o), ("things", .ref t)]
section
variable {price till now : Int} {m o t : Addr}
theorem houF_price : (houF price till now m o t).lookup (Str.ofString "price") = some (.int price) := rfl
theorem houF_till : (houF price till now m o t).lookup (Str.ofString "till") = some (.int till) := rfl
theorem houF_now : (houF price till now m o t).lookup (Str.ofString "now") = some (.int now) := rfl
theorem houF_machines : (houF price till now m o t).lookup (Str.ofString "machines") = some (.ref m) := rfl
theorem houF_orders : (houF price till now m o t).lookup (Str.ofString "orders") = some (.ref o) := rfl
theorem houF_things : (houF price till now m o t).lookup (Str.ofString "things") = some (.ref t) := rfl
theorem houF_m {x : Str} (h : ["price", "till", "now", "machines", "orders", "things"].all (fun f : String => !(x == Str.ofString f)) = true) : (houF price till now m o t).lookup x = none := by
  simp only [List.all_cons, List.all_nil, Bool.and_eq_true, Bool.not_eq_true'] at h
  obtain ⟨h1, h2, h3, h4, h5, h6, _⟩ := h
  exact (lk_skip h1).trans ((lk_skip h2).trans ((lk_skip h3).trans ((lk_skip h4).trans ((lk_skip h5).trans ((lk_skip h6).trans rfl)))))
end
def macF (bears broken : Int) (l : Addr) (pr : V) (until_ : Int) : List (Str × V) := [("bears", .int bears), ("broken", .int broken), ("inside", .ref l), ("program", pr), ("until", .int until_)]
section
variable {bears broken until_ : Int} {l : Addr} {pr : V}
theorem macF_bears : (macF bears broken l pr until_).lookup (Str.ofString "bears") = some (.int bears) := rfl
theorem macF_broken : (macF bears broken l pr until_).lookup (Str.ofString "broken") = some (.int broken) := rfl
theorem macF_inside : (macF bears broken l pr until_).lookup (Str.ofString "inside") = some (.ref l) := rfl
theorem macF_program : (macF bears broken l pr until_).lookup (Str.ofString "program") = some pr := rfl
theorem macF_until : (macF bears broken l pr until_).lookup (Str.ofString "until") = some (.int until_) := rfl
theorem macF_m {x : Str} (h : ["bears", "broken", "inside", "program", "until"].all (fun f : String => !(x == Str.ofString f)) = true) : (macF bears broken l pr until_).lookup x = none := by
  simp only [List.all_cons, List.all_nil, Bool.and_eq_true, Bool.not_eq_true'] at h
  obtain ⟨h1, h2, h3, h4, h5, _⟩ := h
  exact (lk_skip h1).trans ((lk_skip h2).trans ((lk_skip h3).trans ((lk_skip h4).trans ((lk_skip h5).trans rfl))))
end
def ordF (due state : Int) : List (Str × V) := [("due", .int due), ("state", .int state)]
theorem ordF_due {due state : Int} : (ordF due state).lookup (Str.ofString "due") = some (.int due) := rfl
theorem ordF_state {due state : Int} : (ordF due state).lookup (Str.ofString "state") = some (.int state) := rfl
def OrdAt (H : Hp) (a : Addr) (y : Kyk.Order) : Prop := ∃ dx, H a = some (.ins cOrder dx (ordF y.due y.state))
def macFx (y : Kyk.Machine) (l : Addr) (pr : V) : List (Str × V) := macF y.bears (rN y.broken) l pr y.until_
def MacAt (H : Hp) (a l : Addr) (y : Kyk.Machine) : Prop := ∃ dx pr, H a = some (.ins cMachine dx (macFx y l pr)) ∧ H l = some (.lst (y.load.map nV)) ∧ (y.load ≠ [] → ∃ b, pr = .ref b ∧ H b = some (.tup (progV y.p)))
structure HousAt (H : Hp) (f : Hm) (q : Kyk.Laundry) : Prop where
  h : H f.p = some (.ins cHouse f.dx (houF q.price q.till q.now f.m f.o f.t))
  m : H f.m = some (.lst (f.ms.map V.ref))
  o : H f.o = some (.lst (f.os.map V.ref))
  t : H f.t = some (.lst (f.ts.map V.ref))
  ml : f.ms.length = q.machines.length
  ll : f.ls.length = q.machines.length
  mm : ∀ (k : Nat) a l y, f.ms[k]? = some a → f.ls[k]? = some l → q.machines[k]? = some y → MacAt H a l y
  ol : f.os.length = q.orders.length
  oo : ∀ (k : Nat) a y, f.os[k]? = some a → q.orders[k]? = some y → OrdAt H a y
  tt : Things H f.ts q.items
  ndm : f.ms.Nodup
  ndo : f.os.Nodup
  ndt : f.ts.Nodup
  ot : f.o ≠ f.t
  mo : f.m ≠ f.o
  mt : f.m ≠ f.t
  lo : f.o ∉ f.ls
  lt : f.t ∉ f.ls
abbrev Foot (f : Hm) : List Addr := f.m :: f.o :: f.t :: f.ls
/-- what a call that changes the house leaves alone -/
structure Kp (f f' : Hm) (H H' : Hp) : Prop where
  l : ∀ b xs, b ∉ Foot f → H b = some (.lst xs) → H' b = some (.lst xs) ∧ b ∉ Foot f'
  u : ∀ b xs, H b = some (.tup xs) → H' b = some (.tup xs)
  z : ∀ b o u, H b = some (.frz o u) → H' b = some (.frz o u)
  t : Tb H → Tb H'
theorem Kp.refl (f : Hm) (H : Hp) : Kp f f H H := ⟨fun _ _ n e => ⟨e, n⟩, fun _ _ e => e, fun _ _ _ e => e, fun e => e⟩
theorem Kp.trans {f f1 f2 : Hm} {H H1 H2 : Hp} (a : Kp f f1 H H1) (b : Kp f1 f2 H1 H2) : Kp f f2 H H2 :=
  ⟨fun c xs n e => let ⟨e1, n1⟩ := a.l c xs n e; b.l c xs n1 e1, fun c xs e => b.u c xs (a.u c xs e), fun c o u e => b.z c o u (a.z c o u e), fun e => b.t (a.t e)⟩
theorem Kp.of {f : Hm} {H H' : Hp} (e : Xt H H') : Kp f f H H' := ⟨fun b xs n q => ⟨e.k _ _ q nt_lst, n⟩, fun b xs q => e.k _ _ q nt_tup, fun b o u q => e.k _ _ q nt_frz, e.t⟩
theorem ne_lst {H : Hp} {b c C dx : Addr} {fs : List (Str × V)} {xs : List V} (hb : H b = some (.lst xs)) (hc : H c = some (.ins C dx fs)) : b ≠ c := ne_of hb hc (by intro z; cases z)
theorem ne_tup {H : Hp} {b c C dx : Addr} {fs : List (Str × V)} {xs : List V} (hb : H b = some (.tup xs)) (hc : H c = some (.ins C dx fs)) : b ≠ c := ne_of hb hc (by intro z; cases z)
theorem ne_frz {H : Hp} {b c C dx : Addr} {fs : List (Str × V)} {o : Obj} {u : HO} (hb : H b = some (.frz o u)) (hc : H c = some (.ins C dx fs)) : b ≠ c := ne_of hb hc (by intro z; cases z)
theorem ne_ins {H : Hp} {b c C C' dx dx' : Addr} {fs fs' : List (Str × V)} (hb : H b = some (.ins C dx fs)) (hc : H c = some (.ins C' dx' fs')) (n : C ≠ C') : b ≠ c := ne_of hb hc (by intro z; cases z; exact n rfl)
/-- an instance has changed -/
theorem Kp.ins {f : Hm} {H H' : Hp} {c C dx : Addr} {fs : List (Str × V)} (hc : H c = some (.ins C dx fs)) (b : Xb c H H') : Kp f f H H' :=
  ⟨fun a xs n e => ⟨b.k _ _ (ne_lst e hc) e nt_lst, n⟩, fun a xs e => b.k _ _ (ne_tup e hc) e nt_tup, fun a o u e => b.k _ _ (ne_frz e hc) e nt_frz, b.t⟩
theorem OrdAt.but {H H' : Hp} {c a : Addr} {y : Kyk.Order} (b : Xb c H H') (n : a ≠ c) (h : OrdAt H a y) : OrdAt H' a y := let ⟨dx, e⟩ := h; ⟨dx, b.k _ _ n e nt_ins⟩
theorem MacAt.but {H H' : Hp} {c a l C dx : Addr} {fs : List (Str × V)} {y : Kyk.Machine} (b : Xb c H H') (hc : H c = some (.ins C dx fs)) (n : a ≠ c) (h : MacAt H a l y) : MacAt H' a l y := by
  obtain ⟨dx, pr, h1, h2, h3⟩ := h
  refine ⟨dx, pr, b.k _ _ n h1 nt_ins, b.k _ _ (ne_lst h2 hc) h2 nt_lst, fun z => ?_⟩
  obtain ⟨d, e1, e2⟩ := h3 z
  exact ⟨d, e1, b.k _ _ (ne_tup e2 hc) e2 nt_tup⟩
theorem ThgAt.but {H H' : Hp} {c a C dx : Addr} {fs : List (Str × V)} {y : Kyk.Item} (b : Xb c H H') (hc : H c = some (.ins C dx fs)) (nC : cLabel ≠ C) (n : a ≠ c) (h : ThgAt H a y) : ThgAt H' a y := by
  obtain ⟨dx, l, h1, dl, h2⟩ := h
  exact ⟨dx, l, b.k _ _ n h1 nt_ins, dl, b.k _ _ (ne_ins h2 hc nC) h2 nt_ins⟩
section
variable {H H' : Hp} {f : Hm} {q : Kyk.Laundry}
theorem HousAt.mono (e : Xt H H') (A : HousAt H f q) : HousAt H' f q :=
  { h := e.k _ _ A.h nt_ins, m := e.k _ _ A.m nt_lst, o := e.k _ _ A.o nt_lst, t := e.k _ _ A.t nt_lst, ml := A.ml, ll := A.ll,
    mm := fun k a l y h1 h2 h3 => by
      obtain ⟨dx, pr, e1, e2, e3⟩ := A.mm k a l y h1 h2 h3
      refine ⟨dx, pr, e.k _ _ e1 nt_ins, e.k _ _ e2 nt_lst, fun z => ?_⟩
      obtain ⟨d, e4, e5⟩ := e3 z
      exact ⟨d, e4, e.k _ _ e5 nt_tup⟩
    ol := A.ol, oo := fun k a y h1 h2 => let ⟨dx, e1⟩ := A.oo k a y h1 h2; ⟨dx, e.k _ _ e1 nt_ins⟩
    tt := A.tt.mono e, ndm := A.ndm, ndo := A.ndo, ndt := A.ndt, ot := A.ot, mo := A.mo, mt := A.mt, lo := A.lo, lt := A.lt }
theorem nd_ne {l : List Addr} (nd : l.Nodup) {i j : Nat} {a b : Addr} (hi : l[i]? = some a) (hj : l[j]? = some b) (n : i ≠ j) : a ≠ b := by
  rintro rfl
  obtain ⟨h1, e1⟩ := List.getElem?_eq_some_iff.mp hi
  obtain ⟨h2, e2⟩ := List.getElem?_eq_some_iff.mp hj
  exact n ((List.getElem_inj nd).mp (e1.trans e2.symm))
theorem at_set {α : Type} {l : List α} {i k : Nat} {x y : α} (h : (l.set i x)[k]? = some y) : (k = i ∧ y = x) ∨ (k ≠ i ∧ l[k]? = some y) := by
  by_cases e : k = i
  · subst e
    have hl : k < l.length := by
      have := (List.getElem?_eq_some_iff.mp h).1
      rwa [List.length_set] at this
    rw [List.getElem?_set_self hl] at h
    exact .inl ⟨rfl, (Option.some.inj h).symm⟩
  · rw [List.getElem?_set_ne (Ne.symm e)] at h
    exact .inr ⟨e, h⟩
/-- the house's own fields -/
theorem HousAt.house (A : HousAt H f q) {price till now : Nat} (b : Xb f.p H H') (h : H' f.p = some (.ins cHouse f.dx (houF price till now f.m f.o f.t))) : HousAt H' f { q with price := price, till := till, now := now } :=
  { h := h, m := b.k _ _ (ne_lst A.m A.h) A.m nt_lst, o := b.k _ _ (ne_lst A.o A.h) A.o nt_lst, t := b.k _ _ (ne_lst A.t A.h) A.t nt_lst, ml := A.ml, ll := A.ll,
    mm := fun k a l y h1 h2 h3 => (A.mm k a l y h1 h2 h3).but b A.h (let ⟨_, _, e, _⟩ := A.mm k a l y h1 h2 h3; ne_ins e A.h (by decide)), ol := A.ol,
    oo := fun k a y h1 h2 => (A.oo k a y h1 h2).but b (let ⟨_, e⟩ := A.oo k a y h1 h2; ne_ins e A.h (by decide)),
    tt := ⟨A.tt.1, fun i a y h1 h2 => (A.tt.2 i a y h1 h2).but b A.h (by decide) (let ⟨_, _, e, _⟩ := A.tt.2 i a y h1 h2; ne_ins e A.h (by decide))⟩,
    ndm := A.ndm, ndo := A.ndo, ndt := A.ndt, ot := A.ot, mo := A.mo, mt := A.mt, lo := A.lo, lt := A.lt }
/-- a thing's fields -/
theorem HousAt.thing (A : HousAt H f q) {i : Nat} {c dx l : Addr} {y : Kyk.Item} {y0 : Kyk.Item} (hc : f.ts[i]? = some c) (hy : q.items[i]? = some y0) (b : Xb c H H') (h : H' c = some (.ins cThing dx (thgFx y l))) (hl : LabAt H l y.x.label) : HousAt H' f { q with items := q.items.set i y } := by
  obtain ⟨dx0, l0, h0, _⟩ := A.tt.2 i c y0 hc hy
  refine { h := b.k _ _ (ne_ins A.h h0 (by decide)) A.h nt_ins, m := b.k _ _ (ne_lst A.m h0) A.m nt_lst, o := b.k _ _ (ne_lst A.o h0) A.o nt_lst, t := b.k _ _ (ne_lst A.t h0) A.t nt_lst, ml := A.ml, ll := A.ll, mm := fun k a l y h1 h2 h3 => (A.mm k a l y h1 h2 h3).but b h0 (let ⟨_, _, e, _⟩ := A.mm k a l y h1 h2 h3; ne_ins e h0 (by decide)), ol := A.ol, oo := fun k a y h1 h2 => (A.oo k a y h1 h2).but b (let ⟨_, e⟩ := A.oo k a y h1 h2; ne_ins e h0 (by decide)), tt := ⟨by rw [List.length_set]; exact A.tt.1, fun k a y' h1 h2 => ?_⟩, ndm := A.ndm, ndo := A.ndo, ndt := A.ndt, ot := A.ot, mo := A.mo, mt := A.mt, lo := A.lo, lt := A.lt }
  rcases at_set h2 with ⟨rfl, rfl⟩ | ⟨n, h2⟩
  · rw [hc] at h1
    cases h1
    obtain ⟨dl, e⟩ := hl
    exact ⟨dx, l, h, dl, b.k _ _ (ne_ins e h0 (by decide)) e nt_ins⟩
  · exact (A.tt.2 k a y' h1 h2).but b h0 (by decide) (nd_ne A.ndt h1 hc n)
/-- an order's -/
theorem HousAt.order (A : HousAt H f q) {i : Nat} {c dx : Addr} {y y0 : Kyk.Order} (hc : f.os[i]? = some c) (hy : q.orders[i]? = some y0) (b : Xb c H H') (h : H' c = some (.ins cOrder dx (ordF y.due y.state))) : HousAt H' f { q with orders := q.orders.set i y } := by
  obtain ⟨dx0, h0⟩ := A.oo i c y0 hc hy
  refine { h := b.k _ _ (ne_ins A.h h0 (by decide)) A.h nt_ins, m := b.k _ _ (ne_lst A.m h0) A.m nt_lst, o := b.k _ _ (ne_lst A.o h0) A.o nt_lst, t := b.k _ _ (ne_lst A.t h0) A.t nt_lst, ml := A.ml, ll := A.ll, mm := fun k a l y h1 h2 h3 => (A.mm k a l y h1 h2 h3).but b h0 (let ⟨_, _, e, _⟩ := A.mm k a l y h1 h2 h3; ne_ins e h0 (by decide)), ol := by rw [List.length_set]; exact A.ol, oo := fun k a y' h1 h2 => ?_, tt := ⟨A.tt.1, fun k a y h1 h2 => (A.tt.2 k a y h1 h2).but b h0 (by decide) (let ⟨_, _, e, _⟩ := A.tt.2 k a y h1 h2; ne_ins e h0 (by decide))⟩, ndm := A.ndm, ndo := A.ndo, ndt := A.ndt, ot := A.ot, mo := A.mo, mt := A.mt, lo := A.lo, lt := A.lt }
  rcases at_set h2 with ⟨rfl, rfl⟩ | ⟨n, h2⟩
  · rw [hc] at h1
    cases h1
    exact ⟨dx, h⟩
  · exact (A.oo k a y' h1 h2).but b (nd_ne A.ndo h1 hc n)
/-- a machine's; its list may be another -/
theorem HousAt.machine (A : HousAt H f q) {i : Nat} {c l dx l' : Addr} {y y0 : Kyk.Machine} {pr : V} (hc : f.ms[i]? = some c) (hl : f.ls[i]? = some l) (hy : q.machines[i]? = some y0) (b : Xb c H H') (h : H' c = some (.ins cMachine dx (macFx y l' pr)))
    (hi : H' l' = some (.lst (y.load.map nV))) (hp : y.load ≠ [] → ∃ d, pr = .ref d ∧ H' d = some (.tup (progV y.p))) (no : l' ≠ f.o) (nt : l' ≠ f.t) : HousAt H' { f with ls := f.ls.set i l' } { q with machines := q.machines.set i y } := by
  obtain ⟨dx0, pr0, h0, _⟩ := A.mm i c l y0 hc hl hy
  refine { h := b.k _ _ (ne_ins A.h h0 (by decide)) A.h nt_ins, m := b.k _ _ (ne_lst A.m h0) A.m nt_lst, o := b.k _ _ (ne_lst A.o h0) A.o nt_lst, t := b.k _ _ (ne_lst A.t h0) A.t nt_lst, ml := by rw [List.length_set]; exact A.ml, ll := by rw [List.length_set, List.length_set]; exact A.ll, mm := fun k a l2 y' h1 h2 h3 => ?_, ol := A.ol, oo := fun k a y h1 h2 => (A.oo k a y h1 h2).but b (let ⟨_, e⟩ := A.oo k a y h1 h2; ne_ins e h0 (by decide)), tt := ⟨A.tt.1, fun k a y h1 h2 => (A.tt.2 k a y h1 h2).but b h0 (by decide) (let ⟨_, _, e, _⟩ := A.tt.2 k a y h1 h2; ne_ins e h0 (by decide))⟩, ndm := A.ndm, ndo := A.ndo, ndt := A.ndt, ot := A.ot, mo := A.mo, mt := A.mt, lo := fun z => ?_, lt := fun z => ?_ }
  · rcases at_set h3 with ⟨rfl, rfl⟩ | ⟨n, h3⟩
    · rw [hc] at h1
      cases h1
      rcases at_set h2 with ⟨_, rfl⟩ | ⟨n, _⟩
      · exact ⟨dx, pr, h, hi, hp⟩
      · exact absurd rfl n
    · rcases at_set h2 with ⟨z, _⟩ | ⟨_, h2⟩
      · exact absurd z n
      · exact (A.mm k a l2 y' h1 h2 h3).but b h0 (nd_ne A.ndm h1 hc n)
  · rcases List.mem_or_eq_of_mem_set z with z | z
    · exact A.lo z
    · exact no z.symm
  · rcases List.mem_or_eq_of_mem_set z with z | z
    · exact A.lt z
    · exact nt z.symm
/-- a list outside has changed -/
theorem HousAt.out (A : HousAt H f q) {c : Addr} {xs : List V} (hc : H c = some (.lst xs)) (n : c ∉ Foot f) (b : Xb c H H') : HousAt H' f q := by
  simp only [Foot, List.mem_cons, not_or] at n
  obtain ⟨n1, n2, n3, n4⟩ := n
  have ni : ∀ {a C dx : Addr} {fs : List (Str × V)}, H a = some (.ins C dx fs) → a ≠ c := fun e => Ne.symm (ne_lst hc e)
  refine { h := b.k _ _ (ni A.h) A.h nt_ins, m := b.k _ _ (Ne.symm n1) A.m nt_lst, o := b.k _ _ (Ne.symm n2) A.o nt_lst, t := b.k _ _ (Ne.symm n3) A.t nt_lst, ml := A.ml, ll := A.ll, mm := fun k a l y h1 h2 h3 => ?_, ol := A.ol, oo := fun k a y h1 h2 => let ⟨dx, e⟩ := A.oo k a y h1 h2; ⟨dx, b.k _ _ (ni e) e nt_ins⟩, tt := ⟨A.tt.1, fun k a y h1 h2 => let ⟨dx, l, e, dl, e2⟩ := A.tt.2 k a y h1 h2; ⟨dx, l, b.k _ _ (ni e) e nt_ins, dl, b.k _ _ (ni e2) e2 nt_ins⟩⟩, ndm := A.ndm, ndo := A.ndo, ndt := A.ndt, ot := A.ot, mo := A.mo, mt := A.mt, lo := A.lo, lt := A.lt }
  obtain ⟨dx, pr, e1, e2, e3⟩ := A.mm k a l y h1 h2 h3
  refine ⟨dx, pr, b.k _ _ (ni e1) e1 nt_ins, b.k _ _ (fun z => n4 (by rw [← z]; exact List.mem_of_getElem? h2)) e2 nt_lst, fun z => ?_⟩
  obtain ⟨d, e4, e5⟩ := e3 z
  exact ⟨d, e4, b.k _ _ (ne_of e5 hc (by intro z; cases z)) e5 nt_tup⟩
end
end Wash
/-! The house: what it reads of itself. -/
namespace Wash
open PySem PySem.Spec PyProof.Rows L2
section
variable {K : PySem.W.Frag} {σ : L2.St} {H : Hp} {te ti ta tb : TE} {f : Hm} {q : Kyk.Laundry} {mg : Str → Option Value}
theorem e_at {a : Addr} {xs : List V} {i : Nat} {v : V} (h : Ev te σ H (.ref a)) (hx : SqL K H a xs) (hi : Ev ti σ H (nV i)) (hv : xs[i]? = some v) : Ev (tOp (rIxL K) te ti) σ H v := e_op h hi (rv_l hx (atI_nat hv))
theorem ref_at {as : List Addr} {i : Nat} {a : Addr} (h : as[i]? = some a) : (as.map V.ref)[i]? = some (.ref a) := by rw [List.getElem?_map, h] <;> rfl
theorem nat_at {t : List Nat} {i n : Nat} (h : t[i]? = some n) : (t.map nV)[i]? = some (nV n) := by rw [List.getElem?_map, h] <;> rfl
theorem addr_at {α : Type} {as : List Addr} {ys : List α} {i : Nat} {y : α} (hl : as.length = ys.length) (hy : ys[i]? = some y) : ∃ a, as[i]? = some a := by
  obtain ⟨a, h, _⟩ := get_ref hl hy
  exact ⟨a, h⟩
theorem item_get {i : Nat} {y : Kyk.Item} (h : q.items[i]? = some y) : Kyk.item q i = y := by
  unfold Kyk.item
  rw [List.getD_eq_getElem?_getD, h] <;> rfl
theorem order_get {i : Nat} {y : Kyk.Order} (h : q.orders[i]? = some y) : Kyk.order q i = y := by
  unfold Kyk.order
  rw [List.getD_eq_getElem?_getD, h] <;> rfl
theorem machine_get {i : Nat} {y : Kyk.Machine} (h : q.machines[i]? = some y) : Kyk.machine q i = y := by
  unfold Kyk.machine
  rw [List.getD_eq_getElem?_getD, h] <;> rfl
theorem lt_get {α : Type} {l : List α} {i : Nat} (h : i < l.length) : ∃ y, l[i]? = some y := ⟨l[i], List.getElem?_eq_getElem h⟩
/-- what every laundry of ours keeps -/
structure Ok (q : Kyk.Laundry) : Prop where
  ord : ∀ y ∈ q.items, y.order < q.orders.length
  lab : ∀ y ∈ q.items, Kyk1.okLabel y.x.label = true
  tog : ∀ y ∈ q.items, Kyk1.together [y.x] = true
  plc : ∀ y ∈ q.items, y.place ≤ 2
  nit : q.items.length ≤ 150
  nor : q.orders.length ≤ 60
  nma : q.machines.length ≤ 4
  lod : ∀ m ∈ q.machines, ∀ i ∈ m.load, ∃ y, q.items[i]? = some y ∧ y.place = 1 ∧ (Kyk.order q y.order).state = 1
  ndl : (q.machines.flatMap (·.load)).Nodup
  brk : ∀ m ∈ q.machines, m.broken = true → m.load = []
  wgt : ∀ y ∈ q.items, y.w ≤ 20000
  prc : q.price ≤ 1000
  prg : ∀ m ∈ q.machines, m.load ≠ [] → m.p.heat ∈ Kyk1.heats
theorem e_things (T : Txt K mg) (A : HousAt H f q) (h : Ev te σ H (.ref f.p)) : Ev (tFld K te "things") σ H (.ref f.t) := e_fld h A.h T.c_House T.n_House_things houF_things
theorem e_orders (T : Txt K mg) (A : HousAt H f q) (h : Ev te σ H (.ref f.p)) : Ev (tFld K te "orders") σ H (.ref f.o) := e_fld h A.h T.c_House T.n_House_orders houF_orders
theorem e_machines (T : Txt K mg) (A : HousAt H f q) (h : Ev te σ H (.ref f.p)) : Ev (tFld K te "machines") σ H (.ref f.m) := e_fld h A.h T.c_House T.n_House_machines houF_machines
theorem e_now (T : Txt K mg) (A : HousAt H f q) (h : Ev te σ H (.ref f.p)) : Ev (tFld K te "now") σ H (nV q.now) := e_fld h A.h T.c_House T.n_House_now houF_now
theorem e_thing (T : Txt K mg) (A : HousAt H f q) (h : Ev te σ H (.ref f.p)) {i : Nat} {a : Addr} (hi : Ev ti σ H (nV i)) (ha : f.ts[i]? = some a) : Ev (tOp (rIxL K) (tFld K te "things") ti) σ H (.ref a) := e_at (e_things T A h) (SqL.of A.t) hi (ref_at ha)
theorem e_order (T : Txt K mg) (A : HousAt H f q) (h : Ev te σ H (.ref f.p)) {i : Nat} {a : Addr} (hi : Ev ti σ H (nV i)) (ha : f.os[i]? = some a) : Ev (tOp (rIxL K) (tFld K te "orders") ti) σ H (.ref a) := e_at (e_orders T A h) (SqL.of A.o) hi (ref_at ha)
theorem e_machine (T : Txt K mg) (A : HousAt H f q) (h : Ev te σ H (.ref f.p)) {i : Nat} {a : Addr} (hi : Ev ti σ H (nV i)) (ha : f.ms[i]? = some a) : Ev (tOp (rIxL K) (tFld K te "machines") ti) σ H (.ref a) := e_at (e_machines T A h) (SqL.of A.m) hi (ref_at ha)
/-! a thing's, an order's, a machine's field -/
theorem e_tfld {a : Addr} {y : Kyk.Item} {g : Str} {v : V} (T : Txt K mg) (A : ThgAt H a y) (h : Ev te σ H (.ref a)) (n : NoAttr K cThing g) (l : ∀ lb, (thgFx y lb).lookup g = some v) : Ev (tFld K te g) σ H v := by
  obtain ⟨dx, lb, ho, _⟩ := A
  exact e_fld h ho T.c_Thing n (l lb)
theorem e_ofld {a : Addr} {y : Kyk.Order} {g : Str} {v : V} (T : Txt K mg) (A : OrdAt H a y) (h : Ev te σ H (.ref a)) (n : NoAttr K cOrder g) (l : (ordF y.due y.state).lookup g = some v) : Ev (tFld K te g) σ H v := by
  obtain ⟨dx, ho⟩ := A
  exact e_fld h ho T.c_Order n l
theorem e_mfld {a l0 : Addr} {y : Kyk.Machine} {g : Str} {v : V} (T : Txt K mg) (A : MacAt H a l0 y) (h : Ev te σ H (.ref a)) (n : NoAttr K cMachine g) (l : ∀ pr, (macFx y l0 pr).lookup g = some v) : Ev (tFld K te g) σ H v := by
  obtain ⟨dx, pr, ho, _⟩ := A
  exact e_fld h ho T.c_Machine n (l pr)
end
section
variable {P : Program} {w : World} {K : PySem.W.Frag} {mg : Str → Option Value} {base : Heap}
def spRunning : Sp := fun vs H Q _ => ∃ a l y, vs = [.ref a] ∧ MacAt H a l y ∧ RetV (.bl (Kyk.runs y)) H Q
theorem ok_running (T : Txt K mg) : C8.Met P w K mg base 1 cMachine "is_running" spRunning [] := by
  have nd := (C8.fnScope_by sc_is_running).nd
  refine mkMet T.c_Machine T.d_is_running (fun _ _ _ _ _ _ us hl => match us, hl with | [_], _ => rfl) sc_is_running ?len fun f cdv A outer s H vs Q E hr h => ⟨_, (pss_one (ps_ret (pe_cmpR op_gt (pe_callB call_len_seq (by rfl) T.b_len (by decide +kernel) (pa_cons (pe_fld (pv 0) rfl) pa_nil)) pe_int (nomark _)))), ?body⟩
  case len =>
    rintro vs H Q E ⟨_, _, _, rfl, _⟩
    rfl
  case body =>
    obtain ⟨a, l, y, rfl, hA, k⟩ := h
    obtain ⟨dx, pr, h1, h2, h3⟩ := hA
    refine s_ret (e_is (e_op (e_len (e_fld e_var h1 T.c_Machine T.n_Machine_inside macF_inside) (SqL.of h2)) e_c rv_i0) ?_) k
    unfold Kyk.runs
    rw [List.length_map]
    cases y.load with
    | nil => rfl
    | cons i l => simp
/-- which things are of an order, with their addresses -/
def ofOrd (f : Hm) (q : Kyk.Laundry) (o : Nat) : List (Addr × Kyk.Item) := (f.ts.zip q.items).filter fun z => z.2.order == o
def spThingsOf : Sp := fun vs H Q _ => ∃ (f : Hm) (q : Kyk.Laundry) (o : Nat), vs = [.ref f.p, nV o] ∧ HousAt H f q ∧ Ok q ∧ RetN (.lst ((ofOrd f q o).map fun z => .ref z.1)) H Q
theorem zip_at {f : Hm} {q : Kyk.Laundry} {H : Hp} (A : HousAt H f q) {i : Nat} {z : Addr × Kyk.Item} (h : (f.ts.zip q.items)[i]? = some z) : f.ts[i]? = some z.1 ∧ q.items[i]? = some z.2 ∧ ThgAt H z.1 z.2 := by
  obtain ⟨h1, h2⟩ := List.getElem?_zip_eq_some.mp h
  exact ⟨h1, h2, A.tt.2 i _ _ h1 h2⟩
theorem zip_len {f : Hm} {q : Kyk.Laundry} {H : Hp} (A : HousAt H f q) : (f.ts.zip q.items).length = q.items.length := by
  rw [List.length_zip, A.tt.1, Nat.min_self]
theorem ok_thingsOf (T : Txt K mg) : C8.Met P w K mg base 1 cHouse "things_of" spThingsOf [] := by
  have nd := (C8.fnScope_by sc_things_of).nd
  refine mkMet T.c_House T.d_things_of (fun _ _ _ _ _ _ us hl => match us, hl with | [_, _], _ => rfl) sc_things_of ?len fun f cdv A outer s H vs Q E hr h => ⟨_, (pss_one (ps_ret (pe_lc (own := [("thing", 2)]) (te := (tVar 2)) (tt := (tTest (tOp rEq (tFld K (tVar 2) "order") (tVar 1)))) rfl nd (pi_list (pe_fld (pv 0) rfl)) (blkOk_by (own := [("thing", 2)]) (N := N_things_of) (sc := C8.fnScope s_things_of) (by decide +kernel)) (fun _ _ _ _ _ => (pg_name (i := 2) nd rfl (Or.inl rfl))) (fun _ _ _ _ _ => (pts_one (pt_cmpR op_eq (pe_fld (pv 2) rfl) (pv 1) (nomark _)))) (fun _ _ _ _ _ => (pv 2))))), ?body⟩
  case len =>
    rintro vs H Q E ⟨_, _, _, rfl, _⟩
    rfl
  case body =>
    obtain ⟨f, q, o, rfl, A, ok, k⟩ := h
    refine s_retN ?_ k
    refine n_lc (f.ts.zip q.items) (fun z => z.2.order == o) (fun z => .ref z.1) (w_list (e_things T A e_var) (SqL.of A.t)) (by rw [zip_len A, List.length_map, A.tt.1]) (by rw [List.length_map, A.tt.1]; have := ok.nit; omega) fun i z H1 e1 hz => ⟨rfl, ?_, fun _ => ?_⟩
    · obtain ⟨h1, h2, h3⟩ := zip_at A hz
      refine t_is (t_test (e_op (e_tfld T (h3.mono e1) (e_var (v := .ref z.1) (congrArg some (ref_at h1))) T.n_Thing_order fun _ => thgF_order) e_var (rv_eq rfl))) ?_
      by_cases c : z.2.order = o
      · rw [c]
        simp
      · rw [beq_eq_false_iff_ne.mpr c]
        refine decide_eq_false fun z => c ?_
        have z' := V.int.inj z
        omega
    · exact e_var (congrArg some (ref_at (zip_at A hz).1))
def waitsB (q : Kyk.Laundry) (y : Kyk.Item) : Bool := y.place == 0 && (Kyk.order q y.order).state == 1
theorem eq_nat (a b : Nat) : decide (V.int (a : Int) = V.int (b : Int)) = (a == b) := by
  by_cases h : a = b
  · subst h
    simp
  · rw [beq_eq_false_iff_ne.mpr h]
    refine decide_eq_false fun z => h ?_
    have z' := V.int.inj z
    omega
def spWaits : Sp := fun vs H Q _ => ∃ (f : Hm) (q : Kyk.Laundry) (a : Addr) (y : Kyk.Item), vs = [.ref f.p, .ref a] ∧ HousAt H f q ∧ ThgAt H a y ∧ y.order < q.orders.length ∧ RetV (.bl (waitsB q y)) H Q
theorem ok_waits (T : Txt K mg) : C8.Met P w K mg base 1 cHouse "waits" spWaits [] := by
  have nd := (C8.fnScope_by sc_waits).nd
  refine mkMet T.c_House T.d_waits (fun _ _ _ _ _ _ us hl => match us, hl with | [_, _], _ => rfl) sc_waits ?len fun f cdv A outer s H vs Q E hr h => ⟨_, (pss_one (ps_ret (pe_and (pe_cmpR op_eq (pe_fld (pv 1) rfl) (C8.pe_gc rfl T.g_UNWASHED) (nomark _)) (pe_one (pe_cmpR op_eq (pe_fld (pe_ix ix_list (pe_fld (pv 0) rfl) (pe_fld (pv 1) rfl) (fun _ _ => rfl)) rfl) (C8.pe_gc rfl T.g_CLOSED) (nomark _)))))), ?body⟩
  case len =>
    rintro vs H Q E ⟨_, _, _, _, rfl, _⟩
    rfl
  case body =>
    obtain ⟨f, q, a, y, rfl, A, B, ho, k⟩ := h
    obtain ⟨u, hu⟩ := lt_get ho
    obtain ⟨c, hc⟩ := addr_at A.ol hu
    refine s_ret (e_is (e_and (a := y.place == 0) (b := u.state == 1) (e_is (e_op (e_tfld T B e_var T.n_Thing_place fun _ => thgF_place) e_c (rv_eq rfl)) (congrArg V.bl (eq_nat y.place 0))) fun _ =>
      e_is (e_op (e_ofld T (A.oo _ c u hc hu) (e_order T A e_var (e_tfld T B e_var T.n_Thing_order fun _ => thgF_order) hc) T.n_Order_state ordF_state) e_c (rv_eq rfl)) (congrArg V.bl (eq_nat u.state 1))) ?_) k
    unfold waitsB
    rw [order_get hu]
/-- where a thing is, told of the whole -/
def placeOf (q : Kyk.Laundry) (y : Kyk.Item) : Nat := if (Kyk.order q y.order).state = 2 then 3 else if (Kyk.order q y.order).state = 3 ∨ (Kyk.order q y.order).state = 4 then 4 else y.place
def spPlace : Sp := fun vs H Q _ => ∃ (f : Hm) (q : Kyk.Laundry) (a : Addr) (y : Kyk.Item), vs = [.ref f.p, .ref a] ∧ HousAt H f q ∧ ThgAt H a y ∧ y.order < q.orders.length ∧ RetV (nV (placeOf q y)) H Q
theorem ok_place (T : Txt K mg) : C8.Met P w K mg base 1 cHouse "place_of" spPlace [] := by
  have nd := (C8.fnScope_by sc_place_of).nd
  refine mkMet T.c_House T.d_place_of (fun _ _ _ _ _ _ us hl => match us, hl with | [_, _], _ => rfl) sc_place_of ?len fun f cdv A outer s H vs Q E hr h => ⟨_, (pss_cons (ps_set (i := 2) nd rfl (Or.inl rfl) (pe_fld (pe_ix ix_list (pe_fld (pv 0) rfl) (pe_fld (pv 1) rfl) (fun _ _ => rfl)) rfl))
      (pss_cons (ps_if (pt_cmpR op_eq (pv 2) (C8.pe_gc rfl T.g_PACKED) (nomark _)) (pss_one (ps_ret (C8.pe_gc rfl T.g_IN_PARCEL))) pss_nil)
      (pss_cons (ps_if (pt_cmpR op_in_seq (pv 2) (pe_tup (pa_cons (C8.pe_gc rfl T.g_GIVEN_OUT) (pa_cons (C8.pe_gc rfl T.g_CALLED_OFF) pa_nil))) (by rfl)) (pss_one (ps_ret (C8.pe_gc rfl T.g_GONE))) pss_nil)
      (pss_one (ps_ret (pe_fld (pv 1) rfl)))))), ?body⟩
  case len =>
    rintro vs H Q E ⟨_, _, _, _, rfl, _⟩
    rfl
  case body =>
    obtain ⟨f, q, a, y, rfl, A, B, ho, k⟩ := h
    obtain ⟨u, hu⟩ := lt_get ho
    obtain ⟨c, hc⟩ := addr_at A.ol hu
    have k : RetV (nV (if u.state = 2 then 3 else if u.state = 3 ∨ u.state = 4 then 4 else y.place)) H Q := by
      unfold placeOf at k
      rw [order_get hu] at k
      exact k
    refine s_asg (v := nV u.state) (e_ofld T (A.oo _ c u hc hu) (e_order T A e_var (e_tfld T B e_var T.n_Thing_order fun _ => thgF_order) hc) T.n_Order_state ordF_state) fun H1 e1 => ?_
    refine s_when (b := u.state == 2) (t_is (t_test (e_op e_var e_c (rv_eq rfl))) (eq_nat u.state 2)) (fun c2 H2 e2 => ?_) fun c2 H2 e2 => ?_
    · rw [if_pos (by simpa using c2)] at k
      exact s_ret e_c (k.go (e1.trans e2))
    · rw [if_neg (by simpa using c2)] at k
      refine s_when (b := u.state == 3 || u.state == 4) (t_is (t_test (e_op2 e_var (n_tup (v_cons e_c (v_cons e_c v_nil)) (by show 2 ≤ 100000; decide)) fun p H3 e3 hp => rv_inT (neg := false) (SqT.of hp) rfl rfl)) ?_) (fun c3 H3 e3 => ?_) fun c3 H3 e3 => ?_
      · simp only [inV, List.any_cons, List.any_nil, eqV, Bool.or_false, Bool.false_eq_true, if_false]
        have z3 : (3 == (u.state : Int)) = (u.state == 3) := by
          rw [Bool.eq_iff_iff, beq_iff_eq, beq_iff_eq]
          omega
        have z4 : (4 == (u.state : Int)) = (u.state == 4) := by
          rw [Bool.eq_iff_iff, beq_iff_eq, beq_iff_eq]
          omega
        rw [z3, z4]
      · rw [if_pos (by simpa using c3)] at k
        exact s_ret e_c (k.go (e1.trans (e2.trans e3)))
      · rw [if_neg (by simpa using c3)] at k
        exact s_ret (e_tfld T (B.mono (e1.trans (e2.trans e3))) e_var T.n_Thing_place fun _ => thgF_place) (k.go (e1.trans (e2.trans e3)))
def dueI (q : Kyk.Laundry) (i : Nat) : Nat := (Kyk.order q (Kyk.item q i).order).due
def spDue : Sp := fun vs H Q _ => ∃ (f : Hm) (q : Kyk.Laundry) (i : Nat), vs = [.ref f.p, nV i] ∧ HousAt H f q ∧ Ok q ∧ i < q.items.length ∧ RetV (nV (dueI q i)) H Q
theorem ok_due (T : Txt K mg) : C8.Met P w K mg base 1 cHouse "due_of" spDue [] := by
  have nd := (C8.fnScope_by sc_due_of).nd
  refine mkMet T.c_House T.d_due_of (fun _ _ _ _ _ _ us hl => match us, hl with | [_, _], _ => rfl) sc_due_of ?len fun f cdv A outer s H vs Q E hr h => ⟨_, (pss_one (ps_ret (pe_fld (pe_ix ix_list (pe_fld (pv 0) rfl) (pe_fld (pe_ix ix_list (pe_fld (pv 0) rfl) (pv 1) (fun _ _ => rfl)) rfl) (fun _ _ => rfl)) rfl))), ?body⟩
  case len =>
    rintro vs H Q E ⟨_, _, _, rfl, _⟩
    rfl
  case body =>
    obtain ⟨f, q, i, rfl, A, ok, hi, k⟩ := h
    obtain ⟨y, hy⟩ := lt_get hi
    obtain ⟨a, ha⟩ := addr_at A.tt.1 hy
    obtain ⟨u, hu⟩ := lt_get (ok.ord y (List.mem_of_getElem? hy))
    obtain ⟨c, hc⟩ := addr_at A.ol hu
    refine s_ret (e_is (e_ofld T (A.oo _ c u hc hu) (e_order T A e_var (e_tfld T (A.tt.2 i a y ha hy) (e_thing T A e_var e_var ha) T.n_Thing_order fun _ => thgF_order) hc) T.n_Order_due ordF_due) ?_) k
    unfold dueI
    rw [item_get hy, order_get hu]
end
end Wash
/-! Who waits, in their order; the plan. -/
namespace Wash
open PySem PySem.Spec PyProof.Rows L2 NdefX
/-- a def whose code object is known -/
structure DefAtC (K : PySem.W.Frag) (x qual : Str) (st : Stmt) (f c : Addr) : Prop where
  ex : ∃ (oc : Value) (od : Option Addr) (kV doc pm : Value) (an : Option Addr) (ct : Value) (osl : Array (Option Value)),
    K.lookup f = some ⟨oc, od, .func (PySem.W.fnOf x qual (C8.fnArgs st) (C8.fnBody st) (C8.fnScope st) .none kV doc pm an (.ref c) ct), osl⟩ ∧ PySem.W.codeIn K (.ref c) qual = true
section
variable {P : Program} {w : World} {K : PySem.W.Frag} {mg : Str → Option Value} {base : Heap}
theorem mkMetC {x qual : Str} {st : Stmt} {C c : Addr} {N ps : List Str} {k : Nat} {sp : Sp} (cl : Cls K C) (d : ∃ f, Meth K C x f ∧ DefAtC K x qual st f c) (ar : Arity x qual st ps) (S : C8.scC N ps (C8.fnScope st) = true) (len : ∀ vs H Q E, sp vs H Q E → vs.length = ps.length)
    (hbody : ∀ (f : Addr) (A : Around) (outer : List Env) (s : Shared) (H : Hp) (vs : List V) (Q : VK) (E : XK), Room k (A.deeper (envOfC qual (C8.fnScope st) s.heap.objs.size f (.ref c))) → sp vs H Q E →
      ∃ t, PSs (cxOf C8.CX0 P w K mg base N qual (C8.fnScope st) f (.ref c) A outer s H E).nox (C8.fnBody st) t ∧ t { nx := fun _ H' => Q .non H', rt := Q } (start N vs) H) : C8.Met P w K mg base (k + 1) C x sp [] := by
  obtain ⟨f, me, d⟩ := d
  obtain ⟨oc, od, kV, doc, pm, an, ct, osl, hl, hc⟩ := d.ex
  have F : C8.Fun K x qual st f (PySem.W.fnOf x qual (C8.fnArgs st) (C8.fnBody st) (C8.fnScope st) .none kV doc pm an (.ref c) ct) := ⟨oc, od, .none, kV, doc, pm, an, _, ct, osl, rfl, hl, hc⟩
  refine ⟨f, _, ps, [], cl, me, fn_of hl hc (C8.fnScope_by S) len fun A outer s H vs Q E hr hsp => ?_, F.binds rfl ar, .nil⟩
  obtain ⟨t, h, q⟩ := hbody f A outer s H vs Q E hr hsp
  exact ⟨t, h.nox, q⟩
end
/-! the order of those that wait, by insertion -/
def waitL (q : Kyk.Laundry) : List Nat := (Kyk.numbers q).filter fun i => waitsB q (Kyk.item q i)
theorem foldl_put (q : Kyk.Laundry) : ∀ (l acc : List Nat), l.foldl (fun l i => Kyk.put q i l) acc = l.foldl (fun l i => Kyk.put q i l) acc := fun _ _ => rfl
def leD (q : Kyk.Laundry) (i j : Nat) : Bool := decide (dueI q i ≤ dueI q j)
/-- sorted, and of like ones the lesser number first -/
def SrtQ (q : Kyk.Laundry) (l : List Nat) : Prop := l.Pairwise fun i j => dueI q i < dueI q j ∨ (dueI q i = dueI q j ∧ i < j)
theorem put_srt (q : Kyk.Laundry) (i : Nat) : ∀ l : List Nat, SrtQ q l → (∀ j ∈ l, j ≠ i) → SrtQ q (Kyk.put q i l) ∧ (Kyk.put q i l).Perm (i :: l)
  | [], _, _ => ⟨List.pairwise_singleton _ _, List.Perm.refl _⟩
  | j :: l, h, n => by
    have h' := List.pairwise_cons.mp h
    have nj : j ≠ i := n j List.mem_cons_self
    have so : Kyk.sooner q i j = (decide (dueI q i < dueI q j) || (dueI q i == dueI q j && decide (i < j))) := rfl
    show SrtQ q (if Kyk.sooner q i j = true then i :: j :: l else j :: Kyk.put q i l) ∧ (if Kyk.sooner q i j = true then i :: j :: l else j :: Kyk.put q i l).Perm (i :: j :: l)
    by_cases c : Kyk.sooner q i j = true
    · rw [if_pos c]
      refine ⟨List.pairwise_cons.mpr ⟨fun k hk => ?_, h⟩, List.Perm.refl _⟩
      rw [so, Bool.or_eq_true, Bool.and_eq_true, decide_eq_true_eq, beq_iff_eq, decide_eq_true_eq] at c
      rcases List.mem_cons.mp hk with rfl | hk
      · exact c
      · have := h'.1 k hk
        omega
    · rw [if_neg c]
      rw [so, Bool.or_eq_true, Bool.and_eq_true, decide_eq_true_eq, beq_iff_eq, decide_eq_true_eq] at c
      obtain ⟨ih1, ih2⟩ := put_srt q i l h'.2 fun k hk => n k (List.mem_cons_of_mem _ hk)
      refine ⟨List.pairwise_cons.mpr ⟨fun k hk => ?_, ih1⟩, (List.Perm.cons j ih2).trans (List.Perm.swap i j l)⟩
      rcases List.mem_cons.mp (ih2.mem_iff.mp hk) with rfl | hk
      · omega
      · exact h'.1 k hk
theorem fold_srt (q : Kyk.Laundry) : ∀ (l acc : List Nat), SrtQ q acc → (acc ++ l).Nodup → SrtQ q (l.foldl (fun l i => Kyk.put q i l) acc) ∧ (l.foldl (fun l i => Kyk.put q i l) acc).Perm (acc ++ l)
  | [], acc, h, _ => ⟨h, by rw [List.append_nil]; exact List.Perm.refl _⟩
  | i :: l, acc, h, nd => by
    obtain ⟨n1, n2, n3⟩ := List.nodup_append.mp nd
    obtain ⟨a, b⟩ := put_srt q i acc h fun j hj => n3 j hj i List.mem_cons_self
    have p2 : (Kyk.put q i acc ++ l).Perm (acc ++ i :: l) := ((b.append_right l).trans (List.perm_middle.symm))
    obtain ⟨c, d⟩ := fold_srt q l _ a (p2.nodup_iff.mpr nd)
    exact ⟨c, d.trans p2⟩
theorem srt_eq (q : Kyk.Laundry) {a b : List Nat} (p : a.Perm b) (ha : SrtQ q a) (hb : SrtQ q b) : a = b :=
  List.Perm.eq_of_pairwise (fun x y _ _ h1 h2 => by omega) ha hb p
theorem waitL_nd (q : Kyk.Laundry) : (waitL q).Nodup := List.Nodup.sublist List.filter_sublist List.nodup_range
theorem waitL_lt (q : Kyk.Laundry) : (waitL q).Pairwise (· < ·) := List.Pairwise.sublist List.filter_sublist List.pairwise_lt_range
theorem waiting_sort (q : Kyk.Laundry) : Kyk.waiting q = (waitL q).mergeSort (leD q) := by
  obtain ⟨a, b⟩ := fold_srt q (waitL q) [] List.Pairwise.nil (by rw [List.nil_append]; exact waitL_nd q)
  rw [List.nil_append] at b
  have tr : ∀ x y z : Nat, leD q x y = true → leD q y z = true → leD q x z = true := fun x y z h1 h2 => by
    unfold leD at *
    rw [decide_eq_true_eq] at *
    omega
  have tot : ∀ x y : Nat, (leD q x y || leD q y x) = true := fun x y => by
    unfold leD
    rw [Bool.or_eq_true, decide_eq_true_eq, decide_eq_true_eq]
    omega
  have pm : ((waitL q).mergeSort (leD q)).Perm (waitL q) := List.mergeSort_perm _ _
  have s := List.pairwise_mergeSort tr tot (waitL q)
  have keep : ∀ {c : List Nat}, c.Pairwise (fun x y => leD q x y = true) → c.Sublist (waitL q) → c.Sublist ((waitL q).mergeSort (leD q)) := fun h1 h2 => List.sublist_mergeSort tr tot h1 h2
  generalize (waitL q).mergeSort (leD q) = M at pm s keep ⊢
  refine srt_eq q (b.trans pm.symm) a ?_
  have nd2 : M.Nodup := pm.nodup_iff.mpr (waitL_nd q)
  refine List.pairwise_iff_getElem.mpr fun i j hi hj hij => ?_
  have le : dueI q M[i] ≤ dueI q M[j] := of_decide_eq_true (List.pairwise_iff_getElem.mp s i j hi hj hij)
  by_cases c : dueI q M[i] < dueI q M[j]
  · exact .inl c
  · refine .inr ⟨by omega, ?_⟩
    have mi : M[i] ∈ waitL q := pm.mem_iff.mp (List.getElem_mem hi)
    have mj : M[j] ∈ waitL q := pm.mem_iff.mp (List.getElem_mem hj)
    have ne : M[i] ≠ M[j] := fun z => by
      have := (List.getElem_inj nd2).mp z
      omega
    refine Nat.lt_of_not_le fun ge => ?_
    have lt : M[j] < M[i] := Nat.lt_of_le_of_ne ge (Ne.symm ne)
    obtain ⟨p1, hp1, e1⟩ := List.mem_iff_getElem.mp mj
    obtain ⟨p2, hp2, e2⟩ := List.mem_iff_getElem.mp mi
    have p12 : p1 < p2 := by
      refine Nat.lt_of_not_le fun h => ?_
      rcases Nat.lt_or_eq_of_le h with h | h
      · have := List.pairwise_iff_getElem.mp (waitL_lt q) p2 p1 hp2 hp1 h
        omega
      · subst h
        omega
    have sl : [M[j], M[i]].Sublist (waitL q) := by
      rw [← e1, ← e2]
      have h1 : [(waitL q)[p1]].Sublist ((waitL q).take p2) := List.singleton_sublist.mpr (by
        have : ((waitL q).take p2)[p1]'(by rw [List.length_take]; omega) = (waitL q)[p1] := List.getElem_take
        rw [← this]
        exact List.getElem_mem _)
      have h2 : [(waitL q)[p2]].Sublist ((waitL q).drop p2) := List.singleton_sublist.mpr (by
        rw [List.drop_eq_getElem_cons hp2]
        exact List.mem_cons_self)
      have := h1.append h2
      rw [List.take_append_drop] at this
      exact this
    have st := keep (List.pairwise_pair.mpr (decide_eq_true (by omega))) sl
    have pi : M.Pairwise fun x y => M.idxOf x < M.idxOf y := List.pairwise_iff_getElem.mpr fun x y hx hy h => by
      rw [nd2.idxOf_getElem x hx, nd2.idxOf_getElem y hy]
      exact h
    have := List.pairwise_pair.mp (List.Pairwise.sublist st pi)
    rw [nd2.idxOf_getElem j hj, nd2.idxOf_getElem i hi] at this
    omega
end Wash
namespace Wash
open PySem PySem.Spec PyProof.Rows L2 NdefX
section
variable {P : Program} {w : World} {K : PySem.W.Frag} {mg : Str → Option Value} {base : Heap}
def spWaiting : Sp := fun vs H Q _ => ∃ (f : Hm) (q : Kyk.Laundry), vs = [.ref f.p] ∧ HousAt H f q ∧ Ok q ∧ Tb H ∧ RetN (.lst ((Kyk.waiting q).map nV)) H Q
theorem sort_ints (q : Kyk.Laundry) : (((waitL q).map fun n : Nat => (n : Int)).mergeSort fun a b => decide ((dueI q a.toNat : Int) ≤ (dueI q b.toNat : Int))).map V.int = (Kyk.waiting q).map nV := by
  rw [waiting_sort, ← List.map_mergeSort (r := leD q) (fun a _ b _ => ?_), map_int]
  unfold leD
  rw [Int.toNat_natCast, Int.toNat_natCast]
  exact decide_eq_decide.mpr Int.ofNat_le.symm
theorem ok_waiting (T : Txt K mg) (W : ∃ f, Meth K cHouse "waiting_things" f ∧ DefAtC K "waiting_things" "House.waiting_things" s_waiting_things f 269) (TB : LamX.TabB base mg 269 tabP) (w_waits : C8.Met P w K mg base 1 cHouse "waits" spWaits []) (w_due : C8.Met P w K mg base 1 cHouse "due_of" spDue []) :
    C8.Met P w K mg base 6 cHouse "waiting_things" spWaiting [] := by
  have nd := (C8.fnScope_by sc_waiting_things).nd
  refine mkMetC T.c_House W (fun _ _ _ _ _ _ us hl => match us, hl with | [_], _ => rfl) sc_waiting_things ?len fun f A outer s H vs Q E hr h => ⟨_, (pss_cons (ps_setLc (i := 1) (own := [("i", 2), ("thing", 3)]) (g := gTup K 2 (gCons (gName 2) (gCons (gName 3) gNil))) (te := (tVar 2)) (tt := (tB (tMeth cHouse "waits" spWaits [] C8.E0 (tVar 0) (tCons (tVar 3) tNil)))) rfl nd rfl rfl (sw_true rfl rfl rfl (by decide +kernel)) (pi_enum (by rfl) T.b_enumerate (pa_cons (pe_fld (pv 0) rfl) pa_nil)) (blkOk_by (own := [("i", 2), ("thing", 3)]) (N := N_waiting_things) (sc := C8.fnScope s_waiting_things) (by decide +kernel)) (fun _ _ _ _ _ => (pg_tup (by rfl) (pgs_cons (pg_name (i := 2) nd rfl (Or.inl rfl)) (pgs_cons (pg_name (i := 3) nd rfl (Or.inl rfl)) pgs_nil)))) (fun _ _ _ _ _ => (pts_one (pt_val (C8.pe_mt w_waits hr (by decide) (pv 0) (pa_cons (pv 3) pa_nil))))) (fun _ _ _ _ _ => (pv 2)))
      (pss_one (ps_ret (pe_sortBy (N := ["i", "self"]) (fr := ["self"]) (js := [0]) (k := 2) (i0 := "i") (tb := tMeth cHouse "due_of" spDue [] C8.E0 (tVar 1) (tCons (tVar 0) tNil)) ⟨rfl, rfl⟩ rfl T.b_sorted (pa_cons (pv 1) pa_nil) TB rfl rfl (nscope_by (by decide +kernel)) (ndef_free (sc := C8.fnScope s_waiting_things) (fr := ["self"]) (by decide +kernel)) (ndef_fr (sc := C8.fnScope s_waiting_things) (by decide +kernel)) rfl rfl hr (fun _ _ _ _ _ => rfl)
        (fun A outer s H F f hF hr2 => by
          obtain ⟨n1, n2, n3, n4, sc, n5, n6⟩ := F
          dsimp only at hF
          subst hF
          exact C8.pe_mt w_due hr2 (by decide) (pv 1) (pa_cons (pv 0) pa_nil)))))), ?body⟩
  case len =>
    rintro vs H Q E ⟨_, _, rfl, _⟩
    rfl
  case body =>
    obtain ⟨f, q, rfl, A, ok, tbl, k⟩ := h
    have nit := ok.nit
    refine s_asgN (o := .lst ((waitL q).map nV)) ?_ fun p H1 np e1 hp => ?_
    · refine n_lc (Kyk.numbers q) (fun i => waitsB q (Kyk.item q i)) nV (w_enum (v_cons (e_things T A e_var) v_nil) (SqL.of A.t)) (by rw [List.length_map, A.tt.1]; exact List.length_range.symm) (by rw [List.length_map, A.tt.1]; omega) fun i j H1 e1 hj => ⟨rfl, ?_, fun _ => ?_⟩
      · obtain ⟨hi, rfl⟩ := List.getElem?_eq_some_iff.mp hj
        rw [show (Kyk.numbers q).length = q.items.length from List.length_range] at hi
        rw [show (Kyk.numbers q)[i]'(by rw [show (Kyk.numbers q).length = q.items.length from List.length_range]; exact hi) = i from List.getElem_range _]
        obtain ⟨y, hy⟩ := lt_get hi
        obtain ⟨a, ha⟩ := addr_at A.tt.1 hy
        refine t_b (e_meth e_var (A.mono e1).h (houF_m (by decide +kernel)) (a_cons (e_var (v := .ref a) (congrArg some (ref_at ha))) a_nil) ?_)
        rintro _ H2 e2 ⟨_, rfl, rfl⟩ Q2 q2
        refine ⟨f, q, a, y, rfl, A.mono (e1.trans e2), (A.tt.2 i a y ha hy).mono (e1.trans e2), ok.ord y (List.mem_of_getElem? hy), ?_⟩
        rw [item_get hy] at q2
        exact q2
      · obtain ⟨hi, rfl⟩ := List.getElem?_eq_some_iff.mp hj
        rw [show (Kyk.numbers q).length = q.items.length from List.length_range] at hi
        rw [show (Kyk.numbers q)[i]'(by rw [show (Kyk.numbers q).length = q.items.length from List.length_range]; exact hi) = i from List.getElem_range _]
        exact e_var
    · refine s_retN (fun H2 e2 Q2 q2 => ?_) (k.go e1)
      refine (v_cons e_var v_nil : EvVs _ _ H2 [.ref p]) H2 (Xt.refl _) _ fun vs H3 e3 hvs => ?_
      have e13 := e2.trans e3
      refine ⟨p, (waitL q).map fun n : Nat => (n : Int), fun z => (dueI q z.toNat : Nat), hvs, by rw [map_int]; exact e13.k _ _ hp nt_lst, ?_, (e1.trans e13).t tbl, fun n hn H4 e4 Q4 q4 => ?_, fun p2 H4 np2 e4 hp2 => ?_⟩
      · rw [List.length_map]
        have : (waitL q).length ≤ q.items.length := Nat.le_trans (List.length_filter_le _ _) (Nat.le_of_eq List.length_range)
        omega
      · obtain ⟨m, hm, rfl⟩ := List.mem_map.mp hn
        have A4 := A.mono (e1.trans (e13.trans e4))
        have hlt : m < q.items.length := by
          have := (List.mem_filter.mp hm).1
          exact List.mem_range.mp this
        refine (e_meth (v := nV (dueI q m)) (R := fun vs _ => vs = [.int (m : Int)]) (e_var (i := 1) (v := .ref f.p) rfl) A4.h (houF_m (by decide +kernel)) (v_cons (e_var (i := 0) rfl) v_nil) ?_) H4 (Xt.refl _) Q4 q4
        rintro _ H5 e5 rfl Q5 q5
        exact ⟨f, q, m, rfl, A4.mono e5, ok, hlt, q5⟩
      · refine q2 p2 H4 (.back e3 np2) (e3.trans e4) ?_
        rw [hp2, sort_ints]
end
end Wash
namespace Wash
open PySem PySem.Spec PyProof.Rows L2
theorem cut_to (xs : List V) (n : Nat) : cutV xs none (some (n : Int)) = xs.take n := by
  unfold cutV HT.sIx
  simp only [List.drop_zero, Nat.sub_zero]
  rw [if_neg (by omega)]
  rw [List.take_eq_take_iff]
  omega
theorem nums_len (q : Kyk.Laundry) : (Kyk.numbers q).length = q.items.length := List.length_range
theorem items_map (q : Kyk.Laundry) : (Kyk.numbers q).map (Kyk.item q) = q.items := List.ext_getElem? fun i => by
  rw [List.getElem?_map]
  by_cases h : i < q.items.length
  · obtain ⟨y, hy⟩ := lt_get h
    rw [show Kyk.numbers q = List.range q.items.length from rfl, List.getElem?_range h, hy]
    show some (Kyk.item q i) = _
    rw [item_get hy]
  · rw [List.getElem?_eq_none (by rw [nums_len]; omega), List.getElem?_eq_none (by omega)]
    rfl
theorem ofOrder_map (q : Kyk.Laundry) (o : Nat) : (Kyk.ofOrder q o).map (Kyk.item q) = q.items.filter fun y => y.order == o := by
  conv => rhs; rw [← items_map q, List.filter_map]
  rfl
theorem ofOrd_map {f : Hm} {q : Kyk.Laundry} (h : f.ts.length = q.items.length) (o : Nat) : (ofOrd f q o).map (·.2) = q.items.filter fun y => y.order == o := by
  have e : (f.ts.zip q.items).map (·.2) = q.items := List.map_snd_zip (by omega)
  conv => rhs; rw [← e, List.filter_map]
  rfl
theorem ofOrd_len {f : Hm} {q : Kyk.Laundry} (h : f.ts.length = q.items.length) (o : Nat) : (ofOrd f q o).length = (Kyk.ofOrder q o).length := by
  have h1 := congrArg List.length (ofOrd_map h o)
  have h2 := congrArg List.length (ofOrder_map q o)
  rw [List.length_map] at h1 h2
  omega
theorem ofOrd_le {f : Hm} {q : Kyk.Laundry} (o : Nat) : (ofOrd f q o).length ≤ q.items.length := by
  unfold ofOrd
  refine Nat.le_trans (List.length_filter_le _ _) ?_
  rw [List.length_zip]
  exact Nat.min_le_right _ _
theorem ofOrd_at {f : Hm} {q : Kyk.Laundry} {H : Hp} (A : HousAt H f q) {o : Nat} {i : Nat} {z : Addr × Kyk.Item} (h : (ofOrd f q o)[i]? = some z) : z.2.order = o ∧ z.2 ∈ q.items ∧ ThgAt H z.1 z.2 := by
  have m := List.mem_filter.mp (List.mem_of_getElem? h)
  obtain ⟨j, hj⟩ := List.mem_iff_getElem?.mp m.1
  obtain ⟨h1, h2, h3⟩ := zip_at A hj
  exact ⟨by simpa using m.2, List.mem_of_getElem? h2, h3⟩
theorem waiting_perm (q : Kyk.Laundry) : (Kyk.waiting q).Perm (waitL q) := by
  rw [waiting_sort]
  exact List.mergeSort_perm _ _
theorem waiting_mem {q : Kyk.Laundry} {i : Nat} (h : i ∈ Kyk.waiting q) : i < q.items.length ∧ waitsB q (Kyk.item q i) = true := by
  have := List.mem_filter.mp ((waiting_perm q).mem_iff.mp h)
  exact ⟨List.mem_range.mp this.1, this.2⟩
theorem waiting_len (q : Kyk.Laundry) : (Kyk.waiting q).length ≤ q.items.length := by
  rw [(waiting_perm q).length_eq]
  exact Nat.le_trans (List.length_filter_le _ _) (Nat.le_of_eq List.length_range)
section
variable {P : Program} {w : World} {K : PySem.W.Frag} {mg : Str → Option Value} {base : Heap}
def spWaitFor : Sp := fun vs H Q _ => ∃ (f : Hm) (q : Kyk.Laundry) (k : Nat) (a : Addr), vs = [.ref f.p, .ref a] ∧ HousAt H f q ∧ Ok q ∧ Tb H ∧ f.ms[k]? = some a ∧ RetN (.lst ((Kyk.chosen q k).map nV)) H Q
theorem ok_waitFor (T : Txt K mg) (w_waiting_things : C8.Met P w K mg base 6 cHouse "waiting_things" spWaiting []) : C8.Met P w K mg base 7 cHouse "waiting_for" spWaitFor [] := by
  have nd := (C8.fnScope_by sc_waiting_for).nd
  refine mkMet T.c_House T.d_waiting_for (fun _ _ _ _ _ _ us hl => match us, hl with | [_, _], _ => rfl) sc_waiting_for ?len fun f cdv A outer s H vs Q E hr h => ⟨_, (pss_cons (ps_setLc (i := 2) (own := [("i", 3)]) (te := (tVar 3)) (tt := (tTest (tOp (rI0 fun i j => .bl (decide (i ≤ j))) (tFld K (tOp (rIxL K) (tFld K (tVar 0) "things") (tVar 3)) "weight") (tFld K (tVar 1) "bears")))) rfl nd rfl rfl (sw_true rfl rfl rfl (by decide +kernel)) (pi_list (C8.pe_mt0 w_waiting_things hr (by decide) (pv 0))) (blkOk_by (own := [("i", 3)]) (N := N_waiting_for) (sc := C8.fnScope s_waiting_for) (by decide +kernel)) (fun _ _ _ _ _ => (pg_name (i := 3) nd rfl (Or.inl rfl))) (fun _ _ _ _ _ => (pts_one (pt_cmpR op_le (pe_fld (pe_ix ix_list (pe_fld (pv 0) rfl) (pv 3) (fun _ _ => rfl)) rfl) (pe_fld (pv 1) rfl) (nomark _)))) (fun _ _ _ _ _ => (pv 3)))
      (pss_one (ps_ret (pe_slice sl_list (pv 2) po_none (po_some (C8.pe_gc rfl T.g_THINGS_IN_PLAN)))))), ?body⟩
  case len =>
    rintro vs H Q E ⟨_, _, _, _, rfl, _⟩
    rfl
  case body =>
    obtain ⟨f, q, k, a, rfl, A, ok, tbl, ha, kk⟩ := h
    have nit := ok.nit
    have hk : k < q.machines.length := by
      rw [← A.ml]
      exact (List.getElem?_eq_some_iff.mp ha).1
    obtain ⟨m, hm⟩ := lt_get hk
    obtain ⟨l, hl⟩ := addr_at A.ll hm
    have M := A.mm k a l m ha hl hm
    refine s_asgN (o := .lst (((Kyk.waiting q).filter fun i => decide ((Kyk.item q i).w ≤ (Kyk.machine q k).bears)).map nV)) ?_ fun p H1 np e1 hp => ?_
    · refine n_lc (Kyk.waiting q) _ nV (w_listN (xs := (Kyk.waiting q).map nV) (n_meth e_var A.h (houF_m (by decide +kernel)) a_nil (by
        rintro _ H2 e2 rfl Q2 q2
        exact ⟨f, q, rfl, A.mono e2, ok, e2.t tbl, q2⟩))) (List.length_map ..) (by rw [List.length_map]; have := waiting_len q; omega) fun i j H1 e1 hj => ⟨rfl, ?_, fun _ => ?_⟩
      · obtain ⟨y, hy⟩ := lt_get (waiting_mem (List.mem_of_getElem? hj)).1
        obtain ⟨b, hb⟩ := addr_at A.tt.1 hy
        refine t_is (t_test (e_op (e_tfld T ((A.tt.2 j b y hb hy).mono e1) (e_thing T (A.mono e1) e_var (e_var (v := nV j) (congrArg some (nat_at hj))) hb) T.n_Thing_weight fun _ => thgF_weight) (e_mfld T ((A.mono e1).mm k a l m ha hl hm) e_var T.n_Machine_bears fun _ => macF_bears) rv_i0)) ?_
        rw [item_get hy, machine_get hm]
        exact decide_eq_decide.mpr Int.ofNat_le
      · exact e_var (congrArg some (nat_at hj))
    · refine s_retN ?_ (kk.go e1)
      unfold Kyk.chosen
      rw [List.map_take, ← cut_to]
      exact n_slice (lo := none) e_var (SqL.of hp) (fun H1 e Q q => q H1 (Xt.refl _)) (o_some e_c)
def spPlanOf : Sp := fun vs H Q _ => ∃ (f : Hm) (q : Kyk.Laundry) (k : Nat) (a n : Addr) (ns : List Nat), vs = [.ref f.p, .ref n, .ref a] ∧ HousAt H f q ∧ Ok q ∧ f.ms[k]? = some a ∧ H n = some (.lst (ns.map nV)) ∧ ns ≠ [] ∧ ns.length ≤ 8 ∧ (∀ i ∈ ns, i < q.items.length ∧ (Kyk.item q i).w ≤ (Kyk.machine q k).bears) ∧
  ∀ c b, Kyk2.best (Kyk.machine q k).bears (ns.map (Kyk.piece q)) = some (c, b) → ∀ p H2, Xt H H2 → H2 p = some (.lst (b.map nV)) → Q (.ref p) H2
theorem load1 {y : Kyk.Item} {d : Nat} (h : Kyk1.together [y.x] = true) (hw : y.w ≤ d) : Kyk2.load d [pc y] = true := by
  unfold Kyk2.load
  rw [Bool.and_eq_true]
  refine ⟨h, decide_eq_true ?_⟩
  show 0 + y.w ≤ d
  omega
theorem ok_planOf (T : Txt K mg) (c_first_way : C8.Cal P w K mg base 15 "first_way" spFirst []) : C8.Met P w K mg base 16 cHouse "plan_of" spPlanOf [] := by
  have nd := (C8.fnScope_by sc_plan_of).nd
  refine mkMet T.c_House T.d_plan_of (fun _ _ _ _ _ _ us hl => match us, hl with | [_, _, _], _ => rfl) sc_plan_of ?len fun f cdv A outer s H vs Q E hr h => ⟨_, (pss_one (ps_ret (C8.pe_c c_first_way hr (by decide) rfl (pa_cons (pe_lc (own := [("i", 3)]) (te := (tOp (rIxL K) (tFld K (tVar 0) "things") (tVar 3))) (tt := tYes) rfl nd (pi_list (pv 1)) (blkOk_by (own := [("i", 3)]) (N := N_plan_of) (sc := C8.fnScope s_plan_of) (by decide +kernel)) (fun _ _ _ _ _ => (pg_name (i := 3) nd rfl (Or.inl rfl))) (fun _ _ _ _ _ => pts_nil) (fun _ _ _ _ _ => (pe_ix ix_list (pe_fld (pv 0) rfl) (pv 3) (fun _ _ => rfl)))) (pa_cons (pe_fld (pv 2) rfl) pa_nil))))), ?body⟩
  case len =>
    rintro vs H Q E ⟨_, _, _, _, _, _, rfl, _⟩
    rfl
  case body =>
    obtain ⟨f, q, k, a, n, ns, rfl, A, ok, ha, hn, hne, hlen, hin, kk⟩ := h
    have hk : k < q.machines.length := by
      rw [← A.ml]
      exact (List.getElem?_eq_some_iff.mp ha).1
    obtain ⟨m, hm⟩ := lt_get hk
    obtain ⟨l, hl⟩ := addr_at A.ll hm
    rw [machine_get hm] at kk hin
    have mem : ∀ i ∈ ns, ∃ y, q.items[i]? = some y ∧ Kyk.item q i = y := fun i hi => by
      obtain ⟨y, hy⟩ := lt_get (hin i hi).1
      exact ⟨y, hy, item_get hy⟩
    have alone : ∀ z ∈ ns.map (Kyk.piece q), Kyk2.load m.bears [z] = true := fun z hz => by
      obtain ⟨i, hi, rfl⟩ := List.mem_map.mp hz
      obtain ⟨y, hy, ey⟩ := mem i hi
      have hw := (hin i hi).2
      show Kyk2.load m.bears [pc (Kyk.item q i)] = true
      rw [ey] at hw ⊢
      exact load1 (ok.tog y (List.mem_of_getElem? hy)) hw
    obtain ⟨c, b, hb, _⟩ := best_fin alone (by simpa using hne)
    have th : Things H (ns.map fun i => f.ts.getD i 0) (ns.map (Kyk.item q)) := ⟨by rw [List.length_map, List.length_map], fun j d y h1 h2 => by
      rw [List.getElem?_map] at h1 h2
      obtain ⟨i, hi, rfl⟩ := Option.map_eq_some_iff.mp h1
      rw [hi] at h2
      cases h2
      obtain ⟨y, hy, ey⟩ := mem i (List.mem_of_getElem? hi)
      obtain ⟨d, hd⟩ := addr_at A.tt.1 hy
      rw [ey, List.getD_eq_getElem?_getD, hd]
      exact A.tt.2 i d y hd hy⟩
    refine (x_call (xs := b.map nV) (a_consN (o := .lst ((ns.map fun i => f.ts.getD i 0).map V.ref)) nt_lst ?_ (a_cons (e_mfld T (A.mm k a l m ha hl hm) e_var T.n_Machine_bears fun _ => macF_bears) a_nil)) ?_ : EvX _ _ H (b.map nV)) H (Xt.refl _) _ fun p H2 e hp => kk c b hb p H2 e hp
    · rw [List.map_map]
      refine n_map ns _ (w_list e_var (SqL.of hn)) (List.length_map ..) (by rw [List.length_map]; omega) fun i j H1 e1 hj => ⟨rfl, ?_⟩
      obtain ⟨y, hy, ey⟩ := mem j (List.mem_of_getElem? hj)
      obtain ⟨d, hd⟩ := addr_at A.tt.1 hy
      refine e_is (e_thing T (A.mono e1) e_var (e_var (v := nV j) (congrArg some (nat_at hj))) hd) ?_
      show V.ref d = V.ref (f.ts.getD j 0)
      rw [List.getD_eq_getElem?_getD, hd]
      rfl
    · rintro _ H1 e1 ⟨p, _, rfl, np, hp, _, rfl, rfl⟩ Q2 q2
      refine ⟨p, ns.map fun i => f.ts.getD i 0, ns.map (Kyk.item q), m.bears, rfl, hp, th.mono e1, by rw [List.length_map]; exact hlen, by simpa using hne, fun y hy => ?_, fun y hy => ?_, fun c' b' hb' p2 H2 e2 hp2 => ?_⟩
      · obtain ⟨i, hi, rfl⟩ := List.mem_map.mp hy
        obtain ⟨y, hy, ey⟩ := mem i hi
        rw [ey]
        exact ok.lab y (List.mem_of_getElem? hy)
      · obtain ⟨i, hi, rfl⟩ := List.mem_map.mp hy
        exact alone _ (List.mem_map.mpr ⟨i, hi, rfl⟩)
      · rw [List.map_map, show (pc ∘ Kyk.item q) = Kyk.piece q from rfl, hb] at hb'
        cases hb'
        exact q2 p2 H2 e2 hp2
theorem bill_eq {f : Hm} {q : Kyk.Laundry} (h : f.ts.length = q.items.length) (o : Nat) : Kyk.bill q o = q.price * ((((ofOrd f q o).map fun z => z.2.w).sum + 99) / 100) := by
  have e1 : (Kyk.ofOrder q o).map (fun i => (Kyk.item q i).w) = (ofOrd f q o).map fun z => z.2.w := by
    rw [show (fun i => (Kyk.item q i).w) = (·.w) ∘ Kyk.item q from rfl, ← List.map_map, ofOrder_map, ← ofOrd_map h, List.map_map]
    rfl
  unfold Kyk.bill
  rw [e1, ← sum_eq]
  rfl
def spBill : Sp := fun vs H Q _ => ∃ (f : Hm) (q : Kyk.Laundry) (o : Nat), vs = [.ref f.p, nV o] ∧ HousAt H f q ∧ Ok q ∧ RetV (nV (Kyk.bill q o)) H Q
theorem ok_bill (T : Txt K mg) (w_things_of : C8.Met P w K mg base 1 cHouse "things_of" spThingsOf []) : C8.Met P w K mg base 2 cHouse "bill_of" spBill [] := by
  have nd := (C8.fnScope_by sc_bill_of).nd
  refine mkMet T.c_House T.d_bill_of (fun _ _ _ _ _ _ us hl => match us, hl with | [_, _], _ => rfl) sc_bill_of ?len fun f cdv A outer s H vs Q E hr h => ⟨_, (pss_cons (ps_set (i := 2) nd rfl (Or.inl rfl) (pe_callB (cr_sum rfl) (by rfl) T.b_sum (by decide +kernel) (pa_cons (pe_lc (own := [("thing", 3)]) (te := (tFld K (tVar 3) "weight")) (tt := tYes) rfl nd (pi_list (C8.pe_mt w_things_of hr (by decide) (pv 0) (pa_cons (pv 1) pa_nil))) (blkOk_by (own := [("thing", 3)]) (N := N_bill_of) (sc := C8.fnScope s_bill_of) (by decide +kernel)) (fun _ _ _ _ _ => (pg_name (i := 3) nd rfl (Or.inl rfl))) (fun _ _ _ _ _ => pts_nil) (fun _ _ _ _ _ => (pe_fld (pv 3) rfl))) pa_nil)))
      (pss_one (ps_ret (pe_op op_mul (pe_fld (pv 0) rfl) (pe_op op_fdiv (pe_op op_add (pv 2) pe_int) pe_int))))), ?body⟩
  case len =>
    rintro vs H Q E ⟨_, _, _, rfl, _⟩
    rfl
  case body =>
    obtain ⟨f, q, o, rfl, A, ok, k⟩ := h
    have nit := ok.nit
    refine s_asg (v := nV ((ofOrd f q o).map fun z => z.2.w).sum) (e_is (e_sumN (l := (ofOrd f q o).map fun z => z.2.w) ?_) (by rw [cast_sum])) fun H1 e1 => ?_
    · rw [List.map_map]
      refine n_map (ofOrd f q o) _ (w_listN (xs := (ofOrd f q o).map fun z => .ref z.1) (n_meth e_var A.h (houF_m (by decide +kernel)) (a_cons e_var a_nil) (by
        rintro _ H2 e2 ⟨_, rfl, rfl⟩ Q2 q2
        exact ⟨f, q, o, rfl, A.mono e2, ok, q2⟩))) (List.length_map ..) (by rw [List.length_map]; have := ofOrd_le (f := f) (q := q) o; omega) fun i z H1 e1 hz => ⟨rfl, ?_⟩
      exact e_tfld T ((ofOrd_at A hz).2.2.mono e1) (e_var (v := .ref z.1) (congrArg some (by rw [List.getElem?_map, hz] <;> rfl))) T.n_Thing_weight fun _ => thgF_weight
    · have prc := ok.prc
      refine s_ret (e_is (e_op (e_fld e_var (A.mono e1).h T.c_House T.n_House_price houF_price) (e_op (e_op e_var e_c rv_i0) e_c (rv_i ⟨by decide, by decide⟩)) (rv_i (.inl ⟨by omega, by omega⟩))) ?_) (k.go e1)
      rw [bill_eq A.tt.1]
      refine congrArg V.int ?_
      rw [Int.natCast_mul, Int.natCast_ediv, Int.natCast_add]
      rfl
end
end Wash
/-! The house changed. -/
namespace Wash
open PySem PySem.Spec PyProof.Rows L2
theorem Nw.backB {H H1 : Hp} {c l : Addr} {o : HO} (b : Xb c H H1) (hc : H1 c = some o) (n : NT o) (h : Nw H1 l) : Nw H l := fun u e nu => by
  by_cases z : l = c
  · subst z
    exact h o hc n
  · exact h u (b.k _ _ z e nu) nu
theorem putF_len (g : Str) (v : V) : ∀ fs : List (Str × V), (putF g v fs).length ≤ fs.length + 1
  | [] => Nat.le_refl _
  | (x, y) :: r => by
    unfold putF
    split
    · exact Nat.le_succ _
    · exact Nat.succ_le_succ (putF_len g v r)
section
variable {K : PySem.W.Frag} {σ : L2.St} {H : Hp} {D : Ends} {tb tz : TS}
theorem s_fldG {ta tv : TE} {g : Str} (h : tv σ H fun y H1 => ta σ H1 fun x H2 => ∃ a C dx fs, x = .ref a ∧ H2 a = some (.ins C dx fs) ∧ Cls K C ∧ NoAttr K C g ∧ fs.length < 1000 ∧ tz D σ (upd H2 a (.ins C dx (putF g y fs)))) : tSeq (sFld K ta tv g) tz D σ H := h
theorem s_forM {tl : TE} {a : Addr} {xs : List V} {j : Nat} (h : Ev tl σ H (.ref a)) (hx : SqL K H a xs) (Pv : Nat → L2.St → Hp → Prop) (h0 : ∀ H1, Xt H H1 → Pv 0 σ H1) (hG : ∀ i σ' H', Pv i σ' H' → SqL K H' a xs)
    (hs : ∀ i σ' H', i < xs.length → Pv i σ' H' → tb { D with nx := Pv (i + 1), ct := Pv (i + 1), bk := D.nx } (σ'.set j xs[i]?) H') (hd : ∀ σ' H', Pv xs.length σ' H' → D.nx σ' H') : tFor (iList K tl) (gName j) tb D σ H :=
  h H (Xt.refl H) _ fun H1 e1 => ⟨a, rfl, ⟨xs, sq_mono e1 hx⟩, fun i m σ' H' => m = xs.length - i ∧ i ≤ xs.length ∧ Pv i σ' H', ⟨xs.length, by simp, Nat.zero_le _, h0 H1 e1⟩, by
    rintro i m σ' H' ⟨rfl, hi, pv⟩
    by_cases hlt : i < xs.length
    · refine .inr ⟨walk_list.goes i H' hlt (hG _ _ _ pv), Pv (i + 1), fun σ2 H2 h2 => ⟨xs.length - (i + 1), by omega, rfl, hlt, h2⟩, fun x H2 y => ?_⟩
      obtain ⟨e5, hx5⟩ := walk_list.yields i H' x H2 hlt (hG _ _ _ pv) y
      subst e5
      have := hs i σ' H2 hlt pv
      rw [hx5] at this
      exact this
    · have hi2 : i = xs.length := by omega
      subst hi2
      exact .inl ⟨walk_list.stops H' (hG _ _ _ pv), hd σ' H' pv⟩⟩
theorem s_forMS {tl : TE} {a : Addr} {xs : List V} {j : Nat} (h : Ev tl σ H (.ref a)) (hx : SqL K H a xs) (Pv : Nat → L2.St → Hp → Prop) (h0 : ∀ H1, Xt H H1 → Pv 0 σ H1) (hG : ∀ i σ' H', Pv i σ' H' → SqL K H' a xs)
    (hs : ∀ i σ' H', i < xs.length → Pv i σ' H' → tb { D with nx := Pv (i + 1), ct := Pv (i + 1), bk := tz D } (σ'.set j xs[i]?) H') (hd : ∀ σ' H', Pv xs.length σ' H' → tz D σ' H') : tSeq (tFor (iList K tl) (gName j) tb) tz D σ H :=
  s_forM (D := { D with nx := tz D }) h hx Pv h0 hG hs hd
end
def newM (x : Nat) : Kyk.Machine := ⟨x, false, [], 0, Kyk.mild⟩
section
variable {P : Program} {w : World} {K : PySem.W.Frag} {mg : Str → Option Value} {base : Heap}
def spOrderI : Sp := fun vs H Q _ => ∃ due : Nat, spFill cOrder [nV due] (ordF due 0) vs H Q
theorem ok_Order (T : Txt K mg) : C8.Mak P w K mg base 1 "Order" cOrder spOrderI [] := by
  have nd := (C8.fnScope_by sc_Order_init).nd
  refine mkMak T.m_Order T.k_Order (fun _ _ _ _ _ _ us hl => match us, hl with | [_, _], _ => rfl) sc_Order_init ?len fun f cdv A outer s H vs Q E hr h => ⟨_, (pss_cons (ps_fld (pv 0) (pv 1) rfl)
      (pss_one (ps_fld (pv 0) (C8.pe_gc rfl T.g_STILL_OPEN) rfl))), ?body⟩
  case len =>
    rintro vs H Q E ⟨_, p, dx, rfl, _⟩
    rfl
  case body =>
    obtain ⟨due, p, dx, rfl, hp, k⟩ := h
    refine s_fld e_var e_var hp T.c_Order T.n_Order_due (by show 0 < 1000; decide) fun H1 b1 h1 => ?_
    refine s_fldL e_c e_var h1 T.c_Order T.n_Order_state (by show 1 < 1000; decide) fun H2 b2 h2 => ?_
    exact k H2 (b1.trans b2) h2
def spMachineI : Sp := fun vs H Q _ => ∃ (p dx : Addr) (x : Nat), vs = [.ref p, nV x] ∧ H p = some (.ins cMachine dx []) ∧ ∀ H' l, Xb p H H' → Nw H l → MacAt H' p l (newM x) → Q .non H'
theorem ok_Machine (T : Txt K mg) : C8.Mak P w K mg base 1 "Machine" cMachine spMachineI [] := by
  have nd := (C8.fnScope_by sc_Machine_init).nd
  refine mkMak T.m_Machine T.k_Machine (fun _ _ _ _ _ _ us hl => match us, hl with | [_, _], _ => rfl) sc_Machine_init ?len fun f cdv A outer s H vs Q E hr h => ⟨_, (pss_cons (ps_fld (pv 0) (pv 1) rfl)
      (pss_cons (ps_fld (pv 0) pe_int rfl)
      (pss_cons (ps_fld (pv 0) (pe_lst pa_nil) rfl)
      (pss_cons (ps_fld (pv 0) (pe_tup pa_nil) rfl)
      (pss_one (ps_fld (pv 0) pe_int rfl)))))), ?body⟩
  case len =>
    rintro vs H Q E ⟨_, _, _, rfl, _⟩
    rfl
  case body =>
    obtain ⟨p, dx, x, rfl, hp, k⟩ := h
    refine s_fld e_var e_var hp T.c_Machine T.n_Machine_bears (by show 0 < 1000; decide) fun H1 b1 h1 => ?_
    refine s_fld e_c e_var h1 T.c_Machine T.n_Machine_broken (by show 1 < 1000; decide) fun H2 b2 h2 => ?_
    refine s_fldN (o := .lst []) nt_lst (n_lst v_nil (by show 0 ≤ 100000; decide)) e_var h2 T.c_Machine T.n_Machine_inside (by show 2 < 1000; decide) fun l H3 nl b3 h3 hl => ?_
    refine s_fldN (o := .tup []) nt_tup (n_tup v_nil (by show 0 ≤ 100000; decide)) e_var h3 T.c_Machine T.n_Machine_program (by show 3 < 1000; decide) fun g H4 ng b4 h4 hg => ?_
    refine s_fldL e_c e_var h4 T.c_Machine T.n_Machine_until (by show 4 < 1000; decide) fun H5 b5 h5 => ?_
    refine k H5 l (b1.trans (b2.trans (b3.trans (b4.trans b5)))) (Nw.backB (b1.trans b2) h2 nt_ins nl) ⟨dx, .ref g, h5, ?_, fun z => absurd rfl z⟩
    exact (b4.trans b5).k _ _ (ne_lst hl h3) hl nt_lst
def freshQ (price : Nat) (bears : List Nat) : Kyk.Laundry := ⟨0, price, bears.map newM, [], [], 0⟩
def spBegin : Sp := fun vs H Q _ => ∃ (p dx b : Addr) (fs : List (Str × V)) (price : Nat) (bears : List Nat), vs = [.ref p, nV price, .ref b] ∧ H p = some (.ins cHouse dx fs) ∧ fs.length ≤ 6 ∧
  (∀ m o t : Addr, putF "things" (.ref t) (putF "orders" (.ref o) (putF "machines" (.ref m) (putF "now" (.int 0) (putF "till" (.int 0) (putF "price" (nV price) fs))))) = houF price 0 0 m o t) ∧
  H b = some (.lst (bears.map nV)) ∧ bears.length ≤ 1000 ∧ ∀ H' f', Xb p H H' → f'.p = p → (∀ a ∈ Foot f', Nw H a) → HousAt H' f' (freshQ price bears) → Q .non H'
theorem ok_begin (T : Txt K mg) (m_Machine : C8.Mak P w K mg base 1 "Machine" cMachine spMachineI []) : C8.Met P w K mg base 3 cHouse "begin" spBegin [] := by
  have nd := (C8.fnScope_by sc_begin).nd
  refine mkMet T.c_House T.d_begin (fun _ _ _ _ _ _ us hl => match us, hl with | [_, _, _], _ => rfl) sc_begin ?len fun f cdv A outer s H vs Q E hr h => ⟨_, (pss_cons (ps_fld (pv 0) (pv 1) rfl)
      (pss_cons (ps_fld (pv 0) pe_int rfl)
      (pss_cons (ps_fld (pv 0) pe_int rfl)
      (pss_cons (ps_fld (pv 0) (pe_lc (own := [("grams", 3)]) (te := (tMake cMachine spMachineI [] C8.E0 (tCons (tVar 3) tNil))) (tt := tYes) rfl nd (pi_list (pv 2)) (blkOk_by (own := [("grams", 3)]) (N := N_begin) (sc := C8.fnScope s_begin) (by decide +kernel)) (fun _ _ _ _ _ => (pg_name (i := 3) nd rfl (Or.inl rfl))) (fun _ _ _ _ _ => pts_nil) (fun _ _ _ _ _ => (C8.pe_mk m_Machine hr (by decide) rfl (pa_cons (pv 3) pa_nil)))) rfl)
      (pss_cons (ps_fld (pv 0) (pe_lst pa_nil) rfl)
      (pss_one (ps_fld (pv 0) (pe_lst pa_nil) rfl))))))), ?body⟩
  case len =>
    rintro vs H Q E ⟨_, _, _, _, _, _, rfl, _⟩
    rfl
  case body =>
    obtain ⟨p, dx, b, fs, price, bears, rfl, hp, hfs, hput, hb, hbl, k⟩ := h
    have l1 := putF_len "price" (nV price) fs
    have l2 := putF_len "till" (.int 0) (putF "price" (nV price) fs)
    have l3 := putF_len "now" (.int 0) (putF "till" (.int 0) (putF "price" (nV price) fs))
    refine s_fld e_var e_var hp T.c_House T.n_House_price (by omega) fun H1 b1 h1 => ?_
    refine s_fld e_c e_var h1 T.c_House T.n_House_till (by omega) fun H2 b2 h2 => ?_
    refine s_fld e_c e_var h2 T.c_House T.n_House_now (by omega) fun H3 b3 h3 => ?_
    have b13 := b1.trans (b2.trans b3)
    have hb3 := b13.k _ _ (ne_lst hb hp) hb nt_lst
    refine s_fldG ?_
    refine n_lcO (σ := _) (H := H3) bears (fun y m fp H4 => ∃ l, fp = [m, l] ∧ MacAt H4 m l (newM y)) (w_list e_var (SqL.of hb3)) (List.length_map ..) (by rw [List.length_map]; omega) (fun y m fp H4 H5 r kp => ?_) (fun y m fp H4 r => ?_) (fun i y H4 e4 hy => ⟨rfl, fun H5 e5 Q2 q2 => ?_⟩) (Xt.refl H3) fun mA el H4 nm e4 hm hel0 nd2 hel => ?_
    · obtain ⟨l, rfl, dx', pr, r1, r2, _⟩ := r
      exact ⟨l, rfl, dx', pr, kp m (by simp) _ r1 nt_ins, kp l (by simp) _ r2 nt_lst, fun z => absurd rfl z⟩
    · obtain ⟨l, rfl, dx', pr, r1, _⟩ := r
      exact ⟨by simp, _, r1, nt_ins⟩
    · refine (r_make (post := fun m H6 => ∃ l, Nw H5 l ∧ MacAt H6 m l (newM y)) (a_cons (e_var (v := nV y) (congrArg some (nat_at hy))) a_nil) ?_ : EvR _ _ H5 _) H5 (Xt.refl _) Q2 fun m H6 nm6 e6 hm6 => ?_
      · rintro _ H6 e6 ⟨_, rfl, rfl⟩ m dx' H7 Q3 nm7 e7 hm7 fin7
        exact ⟨m, dx', y, rfl, hm7, fun H8 l b8 nl M => fin7 H8 b8 ⟨l, nl.back (e6.trans e7), M⟩⟩
      · obtain ⟨l, nl, M⟩ := hm6
        exact q2 m [m, l] H6 (fun c hc => by
          simp only [List.mem_cons, List.not_mem_nil, or_false] at hc
          rcases hc with rfl | rfl
          · exact nm6
          · exact nl) e6 ⟨l, rfl, M⟩
    · have hp4 := e4.k _ _ h3 nt_ins
      refine ⟨_, rfl, p, cHouse, dx, _, rfl, hp4, T.c_House, T.n_House_machines, by omega, ?_⟩
      have l4 := putF_len "machines" (.ref mA) (putF "now" (.int 0) (putF "till" (.int 0) (putF "price" (nV price) fs)))
      have b5 : Xb p H4 (upd H4 p (.ins cHouse dx (putF "machines" (.ref mA) (putF "now" (.int 0) (putF "till" (.int 0) (putF "price" (nV price) fs)))))) := Xb.upd hp4 nt_ins ni
      have h5 : (upd H4 p (.ins cHouse dx (putF "machines" (.ref mA) (putF "now" (.int 0) (putF "till" (.int 0) (putF "price" (nV price) fs)))))) p = _ := upd_same
      generalize upd H4 p (.ins cHouse dx (putF "machines" (.ref mA) (putF "now" (.int 0) (putF "till" (.int 0) (putF "price" (nV price) fs))))) = H5 at b5 h5 ⊢
      have l5 := fun oA : Addr => putF_len "orders" (.ref oA) (putF "machines" (.ref mA) (putF "now" (.int 0) (putF "till" (.int 0) (putF "price" (nV price) fs))))
      refine s_fldN (o := .lst []) nt_lst (n_lst v_nil (by show 0 ≤ 100000; decide)) e_var h5 T.c_House T.n_House_orders (by omega) fun oA H6 no b6 h6 ho => ?_
      refine s_fldNL (o := .lst []) nt_lst (n_lst v_nil (by show 0 ≤ 100000; decide)) e_var h6 T.c_House T.n_House_things (by have := l5 oA; omega) fun tA H7 nt b7 h7 ht => ?_
      have b47 := b5.trans (b6.trans b7)
      have bAll := b13.trans ((Xb.of e4).trans b47)
      have back3 : ∀ {c : Addr}, Nw H3 c → Nw H c := fun n => Nw.backB b13 h3 nt_ins n
      have ko : ∀ {c : Addr} {o : HO}, H4 c = some o → NT o → c ≠ p → H7 c = some o := fun e n z => b47.k _ _ z e n
      have hm7 := ko hm nt_lst (ne_lst hm hp4)
      have ho7 := b7.k _ _ (ne_lst ho h6) ho nt_lst
      have lsE : ∀ (i : Nat) (e : Addr × List Addr), el[i]? = some e → ∃ y l, bears[i]? = some y ∧ e.2 = [e.1, l] ∧ MacAt H7 e.1 l (newM y) ∧ Nw H3 l ∧ l ≠ mA := fun i e he => by
        have hi : i < bears.length := by
          have := (List.getElem?_eq_some_iff.mp he).1
          omega
        obtain ⟨y, hy⟩ := lt_get hi
        obtain ⟨⟨l, hf, M⟩, nD, nw⟩ := hel i e y he hy
        obtain ⟨dx', pr, r1, r2, _⟩ := M
        refine ⟨y, l, hy, hf, ⟨dx', pr, ko r1 nt_ins ?_, ko r2 nt_lst (ne_lst r2 hp4), fun z => absurd rfl z⟩, nw l (by rw [hf]; simp), fun z => nD (by rw [hf, ← z]; simp)⟩
        exact ne_ins r1 hp4 (by decide)
      let lsL : List Addr := el.map fun e => e.2.getD 1 0
      have ls_at : ∀ (i : Nat) (l : Addr), lsL[i]? = some l → ∃ e, el[i]? = some e ∧ l = e.2.getD 1 0 := fun i l hl => by
        rw [List.getElem?_map] at hl
        obtain ⟨e, he, rfl⟩ := Option.map_eq_some_iff.mp hl
        exact ⟨e, he, rfl⟩
      have lsF : ∀ l ∈ lsL, Nw H3 l ∧ l ≠ mA ∧ ∃ xs, H4 l = some (.lst xs) := fun l hl => by
        obtain ⟨e, he, rfl⟩ := List.mem_map.mp hl
        obtain ⟨i, hi⟩ := List.mem_iff_getElem?.mp he
        obtain ⟨y, l, hy, hf, M, nl, nmA⟩ := lsE i e hi
        obtain ⟨⟨l2, hf2, dx', pr, r1, r2, _⟩, _, _⟩ := hel i e y hi hy
        rw [hf] at hf2
        cases hf2
        rw [hf]
        exact ⟨nl, nmA, _, r2⟩
      have neO : ∀ {c : Addr} {xs : List V}, H4 c = some (.lst xs) → c ≠ oA := fun {c xs} e z => by
        have e5 := b5.k _ _ (ne_lst e hp4) e nt_lst
        rw [z] at e5
        exact no _ e5 nt_lst
      have neT : ∀ {c : Addr} {xs : List V}, H6 c = some (.lst xs) → c ≠ tA := fun {c xs} e z => by
        rw [z] at e
        exact nt _ e nt_lst
      have up6 : ∀ {c : Addr} {xs : List V}, H4 c = some (.lst xs) → H6 c = some (.lst xs) := fun {c xs} e => (b5.trans b6).k _ _ (ne_lst e hp4) e nt_lst
      refine k H7 ⟨p, dx, mA, oA, tA, el.map (·.1), [], [], lsL⟩ bAll rfl (fun a ha => ?_) ?_
      · simp only [Foot, List.mem_cons] at ha
        rcases ha with rfl | rfl | rfl | ha
        · exact back3 nm
        · exact back3 (.back e4 (Nw.backB b5 h5 nt_ins no))
        · exact back3 (.back e4 (Nw.backB (b5.trans b6) h6 nt_ins nt))
        · exact back3 (lsF a ha).1
      · have mlen : (el.map (·.1)).length = (freshQ price bears).machines.length := by
          show _ = (bears.map newM).length
          rw [List.length_map, List.length_map]
          exact hel0
        have llen : lsL.length = (freshQ price bears).machines.length := by
          show (el.map _).length = (bears.map newM).length
          rw [List.length_map, List.length_map]
          exact hel0
        refine { h := by rw [h7, hput]; rfl, m := hm7, o := ho7, t := ht, ml := mlen, ll := llen, mm := fun i a l y h1 h2 h3 => ?_, ol := rfl, oo := fun i a y h1 h2 => (by cases h1), tt := ⟨rfl, fun i a y h1 h2 => (by cases h1)⟩, ndm := nd2, ndo := List.nodup_nil, ndt := List.nodup_nil, ot := neT ho, mo := neO hm, mt := neT (up6 hm), lo := fun z => ?_, lt := fun z => ?_ }
        · rw [List.getElem?_map] at h1
          obtain ⟨e, he, rfl⟩ := Option.map_eq_some_iff.mp h1
          obtain ⟨y', l', hy', hf, M, _⟩ := lsE i e he
          obtain ⟨e', he', rfl⟩ := ls_at i l h2
          rw [he] at he'
          cases he'
          have h3' : (bears.map newM)[i]? = some y := h3
          rw [List.getElem?_map, hy'] at h3'
          cases h3'
          rw [hf]
          exact M
        · obtain ⟨_, _, xs, e⟩ := lsF _ z
          exact neO e rfl
        · obtain ⟨_, _, xs, e⟩ := lsF _ z
          exact neT (up6 e) rfl
end
end Wash
namespace Wash
open PySem PySem.Spec PyProof.Rows L2
section
variable {K : PySem.W.Frag} {σ : L2.St} {H : Hp} {te : TE}
/-- a call that may change what stands -/
theorem d_meth {sp : Sp} {E : XK} {ta : TA} {R : List V → Hp → Prop} {a C dx : Addr} {fs : List (Str × V)} {m : Str} {Q : VK} (h : Ev te σ H (.ref a)) (ho : H a = some (.ins C dx fs)) (l : fs.lookup m = none) (ha : EvA ta σ H R)
    (hs : ∀ vs H1, Xt H H1 → R vs H1 → sp (.ref a :: vs) H1 Q E) : tMeth C m sp [] E te ta σ H Q :=
  h H (Xt.refl H) _ fun H2 e2 => ⟨a, dx, fs, rfl, e2.k _ _ ho nt_ins, l, ha H2 e2 _ fun vs H3 e3 k => by
    rw [List.append_nil]
    exact hs vs H3 (e2.trans e3) k⟩
theorem d_call {sp : Sp} {E : XK} {ta : TA} {R : List V → Hp → Prop} {Q : VK} (ha : EvA ta σ H R) (hs : ∀ vs H1, Xt H H1 → R vs H1 → sp vs H1 Q E) : tCall sp [] E ta σ H Q :=
  ha H (Xt.refl H) _ fun vs H2 e2 k => by
    rw [List.append_nil]
    exact hs vs H2 e2 k
end
section
variable {P : Program} {w : World} {K : PySem.W.Frag} {mg : Str → Option Value} {base : Heap}
def spHouseI : Sp := fun vs H Q _ => ∃ (p dx : Addr), vs = [.ref p] ∧ H p = some (.ins cHouse dx []) ∧ ∀ H' f', Xb p H H' → f'.p = p → (∀ a ∈ Foot f', Nw H a) → HousAt H' f' (freshQ 0 []) → Q .non H'
theorem ok_House (T : Txt K mg) (w_begin : C8.Met P w K mg base 3 cHouse "begin" spBegin []) : C8.Mak P w K mg base 4 "House" cHouse spHouseI [] := by
  have nd := (C8.fnScope_by sc_House_init).nd
  refine mkMak T.m_House T.k_House (fun _ _ _ _ _ _ us hl => match us, hl with | [_], _ => rfl) sc_House_init ?len fun f cdv A outer s H vs Q E hr h => ⟨_, (pss_one (ps_expr (C8.pe_mt w_begin hr (by decide) (pv 0) (pa_cons pe_int (pa_cons (pe_lst pa_nil) pa_nil))))), ?body⟩
  case len =>
    rintro vs H Q E ⟨_, _, rfl, _⟩
    rfl
  case body =>
    obtain ⟨p, dx, rfl, hp, k⟩ := h
    refine d_meth (Q := fun _ H1 => Q .non H1) e_var hp rfl (a_cons e_c (a_consN nt_lst (n_lst v_nil (by show 0 ≤ 100000; decide)) a_nil)) ?_
    rintro _ H1 e1 ⟨_, rfl, b, _, rfl, nb, hb, rfl⟩
    exact ⟨p, dx, b, [], 0, [], rfl, e1.k _ _ hp nt_ins, Nat.zero_le _, fun m o t => rfl, hb, Nat.zero_le _, fun H' f' b' e n A => k H' f' ⟨fun c o nc e nn => b'.k c o nc (e1.k _ _ e nn) nn, fun z => b'.t (e1.t z)⟩ e (fun a ha => (n a ha).back e1) A⟩
theorem ordF_put {due st st' : Int} : putF "state" (.int st') (ordF due st) = ordF due st' := rfl
def spSetState : Sp := fun vs H Q _ => ∃ (f : Hm) (q : Kyk.Laundry) (o st : Nat) (y : Kyk.Order), vs = [.ref f.p, nV o, nV st] ∧ HousAt H f q ∧ q.orders[o]? = some y ∧ ∀ H', Kp f f H H' → HousAt H' f { q with orders := q.orders.set o { y with state := st } } → Q .non H'
theorem ok_setState (T : Txt K mg) : C8.Met P w K mg base 1 cHouse "set_state" spSetState [] := by
  have nd := (C8.fnScope_by sc_set_state).nd
  refine mkMet T.c_House T.d_set_state (fun _ _ _ _ _ _ us hl => match us, hl with | [_, _, _], _ => rfl) sc_set_state ?len fun f cdv A outer s H vs Q E hr h => ⟨_, (pss_cons (ps_set (i := 3) nd rfl (Or.inl rfl) (pe_ix ix_list (pe_fld (pv 0) rfl) (pv 1) (fun _ _ => rfl)))
      (pss_one (ps_fld (pv 3) (pv 2) rfl))), ?body⟩
  case len =>
    rintro vs H Q E ⟨_, _, _, _, _, rfl, _⟩
    rfl
  case body =>
    obtain ⟨f, q, o, st, y, rfl, A, hy, k⟩ := h
    obtain ⟨a, ha⟩ := addr_at A.ol hy
    refine s_asg (v := .ref a) (e_order T A e_var e_var ha) fun H1 e1 => ?_
    have A1 := A.mono e1
    obtain ⟨dx, h0⟩ := A1.oo o a y ha hy
    refine s_fldL e_var e_var h0 T.c_Order T.n_Order_state (by show 2 < 1000; decide) fun H2 b2 h2 => ?_
    exact k H2 ((Kp.of e1).trans (Kp.ins h0 b2)) (A1.order ha hy b2 h2)
theorem thgF_put {o need colour runs weight place p : Int} {lab : V} : putF "place" (.int p) (thgF o lab need colour runs weight place) = thgF o lab need colour runs weight p := rfl
theorem modify_set {α : Type} {l : List α} {i : Nat} {y : α} {g : α → α} (h : l[i]? = some y) : l.modify i g = l.set i (g y) := List.ext_getElem? fun j => by
  rw [List.getElem?_modify, List.getElem?_set]
  by_cases e : i = j
  · subst e
    rw [h, if_pos rfl, if_pos (List.getElem?_eq_some_iff.mp h).1]
    simp
  · rw [if_neg e]
    cases l[j]? <;> simp [e]
/-- the loop that sets places -/
theorem place_loop (T : Txt K mg) {σ : L2.St} {H : Hp} {D : Ends} {tz : TS} {f : Hm} {q : Kyk.Laundry} {n : Addr} {ns : List Nat} {sn si st : Nat} {pl : Nat} {tp : TE} (A : HousAt H f q) (hn : H n = some (.lst (ns.map nV))) (nn : n ∉ Foot f ∨ n ∈ f.ls) (hs0 : σ[0]? = some (some (.ref f.p))) (hsn : σ[sn]? = some (some (.ref n)))
    (hin : ∀ i ∈ ns, i < q.items.length) (d1 : si ≠ 0) (d2 : st ≠ 0) (d3 : si ≠ sn) (d4 : st ≠ sn) (d5 : si ≠ st) (li : si < σ.length) (lt : st < σ.length)
    (hp : ∀ (σ' : L2.St) (H' : Hp), (∀ j, j ≠ si → j ≠ st → σ'[j]? = σ[j]?) → Ev tp σ' H' (nV pl))
    (k : ∀ σ' H', (∀ j, j ≠ si → j ≠ st → σ'[j]? = σ[j]?) → Kp f f H H' → H' n = some (.lst (ns.map nV)) → HousAt H' f { q with items := Kyk.placed q.items ns pl } → tz D σ' H') :
    tSeq (tFor (iList K (tVar sn)) (gName si) (tSeq (tAsg (tOp (rIxL K) (tFld K (tVar 0) "things") (tVar si)) (gName st)) (sFld K (tVar st) tp "place"))) tz D σ H := by
  refine s_forMS (e_var hsn) (SqL.of hn) (fun i σ' H' => σ'.length = σ.length ∧ (∀ j, j ≠ si → j ≠ st → σ'[j]? = σ[j]?) ∧ Kp f f H H' ∧ H' n = some (.lst (ns.map nV)) ∧ HousAt H' f { q with items := placedL q.items (ns.take i) pl }) (fun H1 e1 => ⟨rfl, fun _ _ _ => rfl, Kp.of e1, e1.k _ _ hn nt_lst, A.mono e1⟩) (fun i σ' H' h => SqL.of h.2.2.2.1) (fun i σ' H' hi h => ?_) fun σ' H' h => ?_
  · obtain ⟨l1, l2, l3, l4, l5⟩ := h
    rw [List.length_map] at hi
    obtain ⟨j, hj⟩ := lt_get hi
    have hjl : j < (placedL q.items (ns.take i) pl).length := by
      rw [placedL_len]
      exact hin j (List.mem_of_getElem? hj)
    obtain ⟨y, hy⟩ := lt_get hjl
    obtain ⟨a, ha⟩ := addr_at l5.tt.1 hy
    rw [nat_at hj]
    have s0 : (σ'.set si (some (nV j)))[0]? = some (some (.ref f.p)) := by
      rw [List.getElem?_set_ne d1, l2 0 (Ne.symm d1) (Ne.symm d2)]
      exact hs0
    refine s_asg (v := .ref a) (e_thing T l5 (e_var s0) (e_var (List.getElem?_set_self (by omega))) ha) fun H1 e1 => ?_
    have A1 := l5.mono e1
    obtain ⟨dx, lb, h0, dl, hl⟩ := A1.tt.2 j a y ha hy
    have oth : ∀ m, m ≠ si → m ≠ st → ((σ'.set si (some (nV j))).set st (some (.ref a)))[m]? = σ[m]? := fun m n1 n2 => by
      rw [List.getElem?_set_ne (Ne.symm n2), List.getElem?_set_ne (Ne.symm n1), l2 m n1 n2]
    refine s_fldL (hp _ _ oth) (e_var (List.getElem?_set_self (by rw [List.length_set]; omega))) h0 T.c_Thing T.n_Thing_place (by show 7 < 1000; decide) fun H2 b2 h2 => ?_
    have nn2 : n ≠ a := ne_lst (e1.k _ _ l4 nt_lst) h0
    refine ⟨by rw [List.length_set, List.length_set]; exact l1, oth, l3.trans ((Kp.of e1).trans (Kp.ins h0 b2)), b2.k _ _ nn2 (e1.k _ _ l4 nt_lst) nt_lst, ?_⟩
    have A2 := A1.thing (y := setP pl y) (l := lb) ha hy b2 (by rw [h2]; exact congrArg (fun fs => some (HO.ins cThing dx fs)) thgF_put) ⟨dl, hl⟩
    have ei : placedL q.items (ns.take (i + 1)) pl = (placedL q.items (ns.take i) pl).set j (setP pl y) := by
      rw [List.take_add_one, hj]
      show placedL q.items (ns.take i ++ [j]) pl = _
      rw [placedL_snoc, modify_set hy]
    rw [ei]
    exact A2
  · obtain ⟨l1, l2, l3, l4, l5⟩ := h
    rw [List.length_map, List.take_length, placed_eq] at l5
    exact k σ' H' l2 l3 l4 l5
theorem macF_put {bears broken until_ u : Int} {l l' : Addr} {pr pr' : V} : putF "until" (.int u) (putF "program" pr' (putF "inside" (.ref l') (macF bears broken l pr until_))) = macF bears broken l' pr' u := rfl
theorem macF_putI {bears broken until_ : Int} {l l' : Addr} {pr : V} : putF "inside" (.ref l') (macF bears broken l pr until_) = macF bears broken l' pr until_ := rfl
theorem macF_putB {bears broken broken' until_ : Int} {l : Addr} {pr : V} : putF "broken" (.int broken') (macF bears broken l pr until_) = macF bears broken' l pr until_ := rfl
def fillQ (q : Kyk.Laundry) (k : Nat) (m : Kyk.Machine) (ns : List Nat) (p : Kyk1.Program) (u : Nat) : Kyk.Laundry := { q with items := Kyk.placed q.items ns 1, machines := q.machines.set k { m with load := ns, p := p, until_ := u } }
def spFillM : Sp := fun vs H Q _ => ∃ (f : Hm) (q : Kyk.Laundry) (k : Nat) (a n g : Addr) (ns : List Nat) (p : Kyk1.Program) (u : Nat) (m : Kyk.Machine), vs = [.ref f.p, .ref a, .ref n, .ref g, nV u] ∧ HousAt H f q ∧ f.ms[k]? = some a ∧ q.machines[k]? = some m ∧ H n = some (.lst (ns.map nV)) ∧ n ∉ Foot f ∧ H g = some (.tup (progV p)) ∧ (∀ i ∈ ns, i < q.items.length) ∧
  ∀ H', (∀ b xs, b ∉ Foot f → b ≠ n → H b = some (.lst xs) → H' b = some (.lst xs)) → Kp f f H H' → HousAt H' { f with ls := f.ls.set k n } (fillQ q k m ns p u) → Q .non H'
theorem ok_fill (T : Txt K mg) : C8.Met P w K mg base 1 cHouse "fill" spFillM [] := by
  have nd := (C8.fnScope_by sc_fill).nd
  refine mkMet T.c_House T.d_fill (fun _ _ _ _ _ _ us hl => match us, hl with | [_, _, _, _, _], _ => rfl) sc_fill ?len fun f cdv A outer s H vs Q E hr h => ⟨_, (pss_cons (ps_for PassesOwn.never rfl (pi_list (pv 2)) (pg_name (i := 5) nd rfl (Or.inl rfl)) (pss_cons (ps_set (i := 6) nd rfl (Or.inl rfl) (pe_ix ix_list (pe_fld (pv 0) rfl) (pv 5) (fun _ _ => rfl)))
      (pss_one (ps_fld (pv 6) (C8.pe_gc rfl T.g_IN_MACHINE) rfl))))
      (pss_cons (ps_fld (pv 1) (pv 2) rfl)
      (pss_cons (ps_fld (pv 1) (pv 3) rfl)
      (pss_one (ps_fld (pv 1) (pv 4) rfl))))), ?body⟩
  case len =>
    rintro vs H Q E ⟨_, _, _, _, _, _, _, _, _, _, rfl, _⟩
    rfl
  case body =>
    obtain ⟨f, q, k, a, n, g, ns, p, u, m, rfl, A, ha, hm, hn, nn, hg, hin, kk⟩ := h
    obtain ⟨l, hl⟩ := addr_at A.ll hm
    refine place_loop T A hn (.inl nn) rfl rfl hin (by decide) (by decide) (by decide) (by decide) (by decide) (by show 5 < 7; decide) (by show 6 < 7; decide) (fun σ' H' _ => e_c) fun σ' H1 hσ k1 n1 A1 => ?_
    obtain ⟨dx, pr, h0, h0l, _⟩ := A1.mm k a l m ha hl hm
    have g1 := k1.u _ _ hg
    refine s_fld (v := .ref n) (e_var (by rw [hσ 2 (by decide) (by decide)] <;> rfl)) (e_var (v := .ref a) (by rw [hσ 1 (by decide) (by decide)] <;> rfl)) h0 T.c_Machine T.n_Machine_inside (by show 5 < 1000; decide) fun H2 b2 h2 => ?_
    refine s_fld (v := .ref g) (e_var (by rw [hσ 3 (by decide) (by decide)] <;> rfl)) (e_var (v := .ref a) (by rw [hσ 1 (by decide) (by decide)] <;> rfl)) h2 T.c_Machine T.n_Machine_program (by show 5 < 1000; decide) fun H3 b3 h3 => ?_
    refine s_fldL (v := nV u) (e_var (by rw [hσ 4 (by decide) (by decide)] <;> rfl)) (e_var (v := .ref a) (by rw [hσ 1 (by decide) (by decide)] <;> rfl)) h3 T.c_Machine T.n_Machine_until (by show 5 < 1000; decide) fun H4 b4 h4 => ?_
    have b14 := b2.trans (b3.trans b4)
    have nf : n ≠ f.o ∧ n ≠ f.t := by
      simp only [Foot, List.mem_cons, not_or] at nn
      exact ⟨nn.2.1, nn.2.2.1⟩
    have n4 := b14.k _ _ (ne_lst n1 h0) n1 nt_lst
    have A4 := A1.machine (y := { m with load := ns, p := p, until_ := u }) (l' := n) (pr := .ref g) ha hl hm b14 (by rw [h4]; exact congrArg (fun fs => some (HO.ins cMachine dx fs)) macF_put) n4 (fun _ => ⟨g, rfl, b14.k _ _ (ne_tup g1 h0) g1 nt_tup⟩) nf.1 nf.2
    have kp := k1.trans (Kp.ins (f := f) h0 b14)
    exact kk H4 (fun b xs nb _ e => (kp.l b xs nb e).1) kp A4
def takeQ (q : Kyk.Laundry) (k : Nat) (m : Kyk.Machine) (pl : Nat) : Kyk.Laundry := { q with items := Kyk.placed q.items m.load pl, machines := q.machines.set k (Kyk.emptied m) }
def spTakeOut : Sp := fun vs H Q _ => ∃ (f : Hm) (q : Kyk.Laundry) (k : Nat) (a : Addr) (pl : Nat) (m : Kyk.Machine), vs = [.ref f.p, .ref a, nV pl] ∧ HousAt H f q ∧ f.ms[k]? = some a ∧ q.machines[k]? = some m ∧ (∀ i ∈ m.load, i < q.items.length) ∧
  ∀ H' l', Kp f { f with ls := f.ls.set k l' } H H' → HousAt H' { f with ls := f.ls.set k l' } (takeQ q k m pl) → Q (nV m.load.length) H'
theorem ok_takeOut (T : Txt K mg) : C8.Met P w K mg base 1 cHouse "take_out" spTakeOut [] := by
  have nd := (C8.fnScope_by sc_take_out).nd
  refine mkMet T.c_House T.d_take_out (fun _ _ _ _ _ _ us hl => match us, hl with | [_, _, _], _ => rfl) sc_take_out ?len fun f cdv A outer s H vs Q E hr h => ⟨_, (pss_cons (ps_set (i := 3) nd rfl (Or.inl rfl) (pe_fld (pv 1) rfl))
      (pss_cons (ps_for PassesOwn.never rfl (pi_list (pv 3)) (pg_name (i := 4) nd rfl (Or.inl rfl)) (pss_cons (ps_set (i := 5) nd rfl (Or.inl rfl) (pe_ix ix_list (pe_fld (pv 0) rfl) (pv 4) (fun _ _ => rfl)))
      (pss_one (ps_fld (pv 5) (pv 2) rfl))))
      (pss_cons (ps_fld (pv 1) (pe_lst pa_nil) rfl)
      (pss_one (ps_ret (pe_callB call_len_seq (by rfl) T.b_len (by decide +kernel) (pa_cons (pv 3) pa_nil))))))), ?body⟩
  case len =>
    rintro vs H Q E ⟨_, _, _, _, _, _, rfl, _⟩
    rfl
  case body =>
    obtain ⟨f, q, k, a, pl, m, rfl, A, ha, hm, hin, kk⟩ := h
    obtain ⟨l, hl⟩ := addr_at A.ll hm
    refine s_asg (v := .ref l) (e_mfld T (A.mm k a l m ha hl hm) e_var T.n_Machine_inside fun _ => macF_inside) fun H1 e1 => ?_
    have A1 := A.mono e1
    obtain ⟨_, _, _, hl1, _⟩ := A1.mm k a l m ha hl hm
    refine place_loop T A1 hl1 (.inr (List.mem_of_getElem? hl)) rfl rfl hin (by decide) (by decide) (by decide) (by decide) (by decide) (by show 4 < 6; decide) (by show 5 < 6; decide) (fun σ' H' h => e_var (by rw [h 2 (by decide) (by decide)] <;> rfl)) fun σ' H2 hσ k2 hl2 A2 => ?_
    obtain ⟨dx, pr, h0, _, _⟩ := A2.mm k a l m ha hl hm
    refine s_fldN (o := .lst []) nt_lst (n_lst v_nil (by show 0 ≤ 100000; decide)) (e_var (v := .ref a) (by rw [hσ 1 (by decide) (by decide)] <;> rfl)) h0 T.c_Machine T.n_Machine_inside (by show 5 < 1000; decide) fun l' H3 nl b3 h3 hl3 => ?_
    have no : l' ≠ f.o := fun z => by
      rw [z] at nl
      exact nl _ A2.o nt_lst
    have nt : l' ≠ f.t := fun z => by
      rw [z] at nl
      exact nl _ A2.t nt_lst
    have A3 := A2.machine (y := Kyk.emptied m) (l' := l') (pr := pr) ha hl hm b3 (by rw [h3]; exact congrArg (fun fs => some (HO.ins cMachine dx fs)) macF_putI) hl3 (fun z => absurd rfl z) no nt
    have kp2 := (Kp.of e1).trans k2
    refine s_ret (e_is (e_len (e_var (v := .ref l) (by rw [hσ 3 (by decide) (by decide)] <;> rfl)) (SqL.of (b3.k _ _ (ne_lst hl2 h0) hl2 nt_lst))) (by rw [List.length_map])) fun H4 e4 => kk H4 l' ?_ (A3.mono e4)
    have kp3 := (kp2.trans (Kp.ins (f := f) h0 b3)).trans (Kp.of e4)
    refine ⟨fun b xs nb e => ⟨(kp3.l b xs nb e).1, fun z => ?_⟩, kp3.u, kp3.z, kp3.t⟩
    simp only [Foot, List.mem_cons] at z
    simp only [Foot, List.mem_cons, not_or] at nb
    rcases z with z | z | z | z
    · exact nb.1 z
    · exact nb.2.1 z
    · exact nb.2.2.1 z
    · rcases List.mem_or_eq_of_mem_set z with z | z
      · exact nb.2.2.2 z
      · have e2 := (kp2.l b xs (by simp only [Foot, List.mem_cons, not_or]; exact nb) e).1
        rw [z] at e2
        exact nl _ e2 nt_lst
/-! what is over -/
theorem placedL_app (items : List Kyk.Item) (l m : List Nat) (p : Nat) : placedL items (l ++ m) p = placedL (placedL items l p) m p := by
  unfold placedL
  rw [List.foldl_append]
def overM (t : Nat) (m : Kyk.Machine) : Kyk.Machine := if Kyk.ready t m then Kyk.emptied m else m
def overL (t : Nat) (l : List Kyk.Machine) : List Nat := (l.filter (Kyk.ready t)).flatMap (·.load)
def overQ (q : Kyk.Laundry) (i : Nat) : Kyk.Laundry := { q with items := placedL q.items (overL q.now (q.machines.take i)) 2, machines := (q.machines.take i).map (overM q.now) ++ q.machines.drop i }
theorem overQ_len (q : Kyk.Laundry) (i : Nat) : (overQ q i).machines.length = q.machines.length := by
  show ((q.machines.take i).map (overM q.now) ++ q.machines.drop i).length = _
  rw [List.length_append, List.length_map, List.length_take, List.length_drop]
  omega
theorem overQ_at {q : Kyk.Laundry} {i : Nat} {m : Kyk.Machine} (h : q.machines[i]? = some m) : (overQ q i).machines[i]? = some m := by
  have hi := (List.getElem?_eq_some_iff.mp h).1
  show ((q.machines.take i).map (overM q.now) ++ q.machines.drop i)[i]? = _
  rw [List.getElem?_append_right (by rw [List.length_map, List.length_take]; omega), List.length_map, List.length_take, Nat.min_eq_left (Nat.le_of_lt hi), Nat.sub_self, List.getElem?_drop, Nat.add_zero]
  exact h
theorem over_mach {q : Kyk.Laundry} {i : Nat} {m : Kyk.Machine} (h : q.machines[i]? = some m) : (overQ q (i + 1)).machines = (overQ q i).machines.set i (overM q.now m) := by
  have hi := (List.getElem?_eq_some_iff.mp h).1
  have e : (q.machines.take i).length = i := by
    rw [List.length_take]
    omega
  show (q.machines.take (i + 1)).map (overM q.now) ++ q.machines.drop (i + 1) = ((q.machines.take i).map (overM q.now) ++ q.machines.drop i).set i (overM q.now m)
  have dr : q.machines.drop i = m :: q.machines.drop (i + 1) := by
    rw [List.drop_eq_getElem_cons hi, (List.getElem?_eq_some_iff.mp h).2]
  rw [List.take_add_one, h, dr, List.set_append_right i _ (by rw [List.length_map, e]; exact Nat.le_refl _), List.length_map, e, Nat.sub_self]
  show ((q.machines.take i ++ [m]).map _) ++ _ = _
  rw [List.map_append, List.append_assoc]
  rfl
theorem over_list {q : Kyk.Laundry} {i : Nat} {m : Kyk.Machine} (h : q.machines[i]? = some m) : overL q.now (q.machines.take (i + 1)) = overL q.now (q.machines.take i) ++ (if Kyk.ready q.now m then m.load else []) := by
  rw [List.take_add_one, h]
  show overL q.now (q.machines.take i ++ [m]) = _
  unfold overL
  rw [List.filter_append, List.flatMap_append]
  congr 1
  by_cases c : Kyk.ready q.now m = true
  · rw [if_pos c, List.filter_cons, if_pos c]
    simp
  · rw [if_neg c, List.filter_cons, if_neg c]
    simp
theorem overQ_all (q : Kyk.Laundry) : overQ q q.machines.length = Kyk.till q q.now := by
  unfold overQ Kyk.till
  rw [List.take_length, List.drop_length, List.append_nil, placed_eq]
  rfl
def spWash : Sp := fun vs H Q _ => ∃ (f : Hm) (q : Kyk.Laundry), vs = [.ref f.p] ∧ HousAt H f q ∧ (∀ m ∈ q.machines, ∀ i ∈ m.load, i < q.items.length) ∧
  ∀ H' ls, Kp f { f with ls := ls } H H' → HousAt H' { f with ls := ls } (Kyk.till q q.now) → Q (nV (overL q.now q.machines).length) H'
theorem ok_wash (T : Txt K mg) (w_is_running : C8.Met P w K mg base 1 cMachine "is_running" spRunning []) (w_take_out : C8.Met P w K mg base 1 cHouse "take_out" spTakeOut []) : C8.Met P w K mg base 2 cHouse "wash_what_is_over" spWash [] := by
  have nd := (C8.fnScope_by sc_wash_what_is_over).nd
  refine mkMet T.c_House T.d_wash_what_is_over (fun _ _ _ _ _ _ us hl => match us, hl with | [_], _ => rfl) sc_wash_what_is_over ?len fun f cdv A outer s H vs Q E hr h => ⟨_, (pss_cons (ps_set (i := 1) nd rfl (Or.inl rfl) pe_int)
      (pss_cons (ps_for PassesOwn.never rfl (pi_list (pe_fld (pv 0) rfl)) (pg_name (i := 2) nd rfl (Or.inl rfl)) (pss_one (ps_if (PW.pt (pw_and (pt_val (C8.pe_mt0 w_is_running hr (by decide) (pv 2))) (pw_and1 (pt_cmpR op_le (pe_fld (pv 2) rfl) (pe_fld (pv 0) rfl) (nomark _))))) (pss_one (ps_set (i := 1) nd rfl (Or.inl rfl) (pe_op op_add (pv 1) (C8.pe_mt w_take_out hr (by decide) (pv 0) (pa_cons (pv 2) (pa_cons (C8.pe_gc rfl T.g_WASHED) pa_nil)))))) pss_nil)))
      (pss_one (ps_ret (pv 1))))), ?body⟩
  case len =>
    rintro vs H Q E ⟨_, _, rfl, _⟩
    rfl
  case body =>
    obtain ⟨f, q, rfl, A, hin, kk⟩ := h
    refine s_asg (v := nV 0) e_c fun H1 e1 => ?_
    have A1 := A.mono e1
    refine s_forMS (e_machines T A1 e_var) (SqL.of A1.m) (fun i σ' H' => ∃ ls s2, σ' = [some (.ref f.p), some (nV (overL q.now (q.machines.take i)).length), s2] ∧ Kp f { f with ls := ls } H H' ∧ HousAt H' { f with ls := ls } (overQ q i)) (fun H2 e2 => ⟨f.ls, none, rfl, Kp.of (e1.trans e2), ?_⟩) (fun i σ' H' h => ?_) (fun i σ' H' hi h => ?_) fun σ' H' h => ?_
    · exact A.mono (e1.trans e2)
    · obtain ⟨ls, s2, _, _, A2⟩ := h
      exact SqL.of A2.m
    · obtain ⟨ls, s2, rfl, k2, A2⟩ := h
      rw [List.length_map, A.ml] at hi
      obtain ⟨m, hm⟩ := lt_get hi
      obtain ⟨a, ha⟩ := addr_at A.ml hm
      have hm2 := overQ_at hm
      obtain ⟨l, hl⟩ := addr_at A2.ll hm2
      have M := A2.mm i a l m ha hl hm2
      rw [ref_at ha]
      obtain ⟨dx, pr, h0, _⟩ := id M
      refine s_whenL (b := Kyk.ready q.now m) (t_is (t_and (a := Kyk.runs m) (b := decide (m.until_ ≤ q.now)) (t_b (e_meth e_var h0 (macF_m (by decide +kernel)) a_nil (by
        rintro _ H3 e3 rfl Q3 q3
        obtain ⟨dx, pr, e4, e5, e6⟩ := M
        refine ⟨a, l, m, rfl, ⟨dx, pr, e3.k _ _ e4 nt_ins, e3.k _ _ e5 nt_lst, fun z => ?_⟩, q3⟩
        obtain ⟨d, e7, e8⟩ := e6 z
        exact ⟨d, e7, e3.k _ _ e8 nt_tup⟩))) fun _ => t_is (t_test (e_op (e_mfld T M e_var T.n_Machine_until fun _ => macF_until) (e_now T A2 e_var) rv_i0)) (decide_eq_decide.mpr Int.ofNat_le)) rfl) (fun c H3 e3 => ?_) fun c H3 e3 => ?_
      · have A3 := A2.mono e3
        refine ⟨_, rfl, d_meth e_var A3.h (houF_m (by decide +kernel)) (a_cons e_var (a_cons e_c a_nil)) ?_⟩
        rintro _ H4 e4 ⟨_, rfl, _, rfl, rfl⟩
        refine ⟨{ f with ls := ls }, overQ q i, i, a, 2, m, rfl, A3.mono e4, ha, hm2, fun j hj => ?_, fun H5 l' k5 A5 => ⟨_, _, rfl, rfl, ls.set i l', some (.ref a), ?_, (k2.trans (Kp.of (e3.trans e4))).trans k5, ?_⟩⟩
        · show j < (placedL _ _ _).length
          rw [placedL_len]
          exact hin m (List.mem_of_getElem? hm) j hj
        · show [_, _, _] = [_, _, _]
          congr 3
          rw [over_list hm, if_pos c, List.length_append]
          show V.int _ = V.int _
          rw [Int.natCast_add]
        · have : overQ q (i + 1) = takeQ (overQ q i) i m 2 := by
            unfold takeQ
            rw [show overQ q (i + 1) = { overQ q i with items := (overQ q (i + 1)).items, machines := (overQ q (i + 1)).machines } from rfl, over_mach hm]
            have em : overM q.now m = Kyk.emptied m := if_pos c
            have ei : (overQ q (i + 1)).items = Kyk.placed (overQ q i).items m.load 2 := by
              show placedL q.items (overL q.now (q.machines.take (i + 1))) 2 = _
              rw [over_list hm, if_pos c, placedL_app, placed_eq]
              rfl
            rw [em, ei]
          rw [this]
          exact A5
      · refine ⟨ls, some (.ref a), ?_, k2.trans (Kp.of e3), ?_⟩
        · show [_, _, _] = [_, _, _]
          congr 3
          rw [over_list hm, if_neg (by rw [c]; exact Bool.false_ne_true), List.append_nil]
        · have : overQ q (i + 1) = overQ q i := by
            rw [show overQ q (i + 1) = { overQ q i with items := (overQ q (i + 1)).items, machines := (overQ q (i + 1)).machines } from rfl, over_mach hm]
            have e1 : (overQ q i).machines.set i (overM q.now m) = (overQ q i).machines := by
              have : overM q.now m = m := if_neg (by rw [c]; exact Bool.false_ne_true)
              rw [this]
              refine List.ext_getElem? fun j => ?_
              rw [List.getElem?_set]
              by_cases e : i = j
              · subst e
                rw [if_pos rfl, if_pos (by rw [overQ_len]; exact hi), hm2]
              · rw [if_neg e]
            rw [e1]
            show { overQ q i with items := placedL q.items (overL q.now (q.machines.take (i + 1))) 2 } = _
            rw [over_list hm, if_neg (by rw [c]; exact Bool.false_ne_true), List.append_nil]
            rfl
          rw [this]
          exact A2.mono e3
    · obtain ⟨ls, s2, rfl, k2, A2⟩ := h
      rw [List.length_map, A.ml] at A2
      rw [overQ_all] at A2
      refine s_ret (v := nV (overL q.now q.machines).length) (e_var (by rw [List.length_map, A.ml, List.take_length] <;> rfl)) fun H4 e4 => kk H4 ls (k2.trans (Kp.of e4)) (A2.mono e4)
end
end Wash
/-! The calls: what each is handed, how each ends. -/
namespace Wash
open PySem PySem.Spec PyProof.Rows L2
/-- a call's end: the house is q' now, the answer is a list of its own -/
def Done (f : Hm) (H : Hp) (Q : VK) (q' : Kyk.Laundry) (ans : List Int) : Prop := ∀ H' f' p, f'.p = f.p → Kp f f' H H' → HousAt H' f' q' → H' p = some (.lst (ans.map V.int)) → (∀ b xs, b ∉ Foot f → H b = some (.lst xs) → p ≠ b) → p ∉ Foot f' → Q (.ref p) H'
theorem foot_lst {H : Hp} {f : Hm} {q : Kyk.Laundry} (A : HousAt H f q) {b : Addr} (h : b ∈ Foot f) : ∃ xs, H b = some (.lst xs) := by
  simp only [Foot, List.mem_cons] at h
  rcases h with rfl | rfl | rfl | h
  · exact ⟨_, A.m⟩
  · exact ⟨_, A.o⟩
  · exact ⟨_, A.t⟩
  · obtain ⟨k, hk⟩ := List.mem_iff_getElem?.mp h
    obtain ⟨m, hm⟩ := lt_get (l := q.machines) (i := k) (by rw [← A.ll]; exact (List.getElem?_eq_some_iff.mp hk).1)
    obtain ⟨a, ha⟩ := addr_at A.ml hm
    obtain ⟨_, _, _, e, _⟩ := A.mm k a b m ha hk hm
    exact ⟨_, e⟩
theorem Done.at_ {f f1 : Hm} {H H1 : Hp} {Q : VK} {q1 : Kyk.Laundry} {ans : List Int} (k : Done f H Q q1 ans) (fp : f1.p = f.p) (k1 : Kp f f1 H H1) (A1 : HousAt H1 f1 q1) : RetN (.lst (ans.map V.int)) H1 Q := fun p H2 np e2 hp =>
  k H2 f1 p fp (k1.trans (Kp.of e2)) (A1.mono e2) hp (fun b xs nb e z => by
    have := (k1.l b xs nb e).1
    rw [← z] at this
    exact np _ this nt_lst) fun z => by
    obtain ⟨xs, e⟩ := foot_lst A1 z
    exact np _ e nt_lst
theorem Done.rd {f : Hm} {H H1 : Hp} {Q : VK} {q : Kyk.Laundry} {ans : List Int} (k : Done f H Q q ans) (A : HousAt H f q) (e : Xt H H1) : RetN (.lst (ans.map V.int)) H1 Q := k.at_ rfl (Kp.of e) (A.mono e)
structure Inp (H : Hp) (f : Hm) (q : Kyk.Laundry) (n : Addr) (args : List V) : Prop where
  A : HousAt H f q
  ok : Ok q
  tb : Tb H
  nn : H n = some (.lst args)
  nf : n ∉ Foot f
theorem Inp.mono {H H' : Hp} {f : Hm} {q : Kyk.Laundry} {n : Addr} {args : List V} (e : Xt H H') (I : Inp H f q n args) : Inp H' f q n args := ⟨I.A.mono e, I.ok, e.t I.tb, e.k _ _ I.nn nt_lst, I.nf⟩
def toL (a : Kyk.Ans) : List Int := a.value :: KykNeutral.ints a.out
section
variable {K : PySem.W.Frag} {σ : L2.St} {H : Hp} {te ti ta tb : TE} {f : Hm} {q : Kyk.Laundry} {mg : Str → Option Value} {D : Ends}
theorem s_say {z : Int} {a : List Int} (h : Ev te σ H (.int z)) (e : a = [z]) (k : RetN (.lst (a.map V.int)) H D.rt) : tRet (tLst (tCons te tNil)) D σ H := by
  subst e
  exact s_retN (n_lst (v_cons h v_nil) (by show 1 ≤ 100000; decide)) k
theorem e_nm (T : Txt K mg) (A : HousAt H f q) (h : Ev te σ H (.ref f.p)) : Ev (tCB (fun ys H Q => ∃ p zs, ys = [.ref p] ∧ (SqL K H p zs ∨ SqT K H p zs) ∧ Q (.int zs.length) H) (tCons (tFld K te "machines") tNil)) σ H (nV q.machines.length) :=
  e_is (e_len (e_machines T A h) (SqL.of A.m)) (by rw [List.length_map, A.ml])
theorem e_no (T : Txt K mg) (A : HousAt H f q) (h : Ev te σ H (.ref f.p)) : Ev (tCB (fun ys H Q => ∃ p zs, ys = [.ref p] ∧ (SqL K H p zs ∨ SqT K H p zs) ∧ Q (.int zs.length) H) (tCons (tFld K te "orders") tNil)) σ H (nV q.orders.length) :=
  e_is (e_len (e_orders T A h) (SqL.of A.o)) (by rw [List.length_map, A.ol])
theorem e_nt (T : Txt K mg) (A : HousAt H f q) (h : Ev te σ H (.ref f.p)) : Ev (tCB (fun ys H Q => ∃ p zs, ys = [.ref p] ∧ (SqL K H p zs ∨ SqT K H p zs) ∧ Q (.int zs.length) H) (tCons (tFld K te "things") tNil)) σ H (nV q.items.length) :=
  e_is (e_len (e_things T A h) (SqL.of A.t)) (by rw [List.length_map, A.tt.1])
theorem t_ge {k n : Nat} (hk : Ev ta σ H (nV k)) (hn : Ev tb σ H (nV n)) : EvT (tTest (tOp (rI0 fun i j => .bl (decide (i ≥ j))) ta tb)) σ H (decide (n ≤ k)) := t_is (t_test (e_op hk hn rv_i0)) (decide_eq_decide.mpr Int.ofNat_le)
theorem t_gt {k n : Nat} (hk : Ev ta σ H (nV k)) (hn : Ev tb σ H (nV n)) : EvT (tTest (tOp (rI0 fun i j => .bl (decide (i > j))) ta tb)) σ H (decide (n < k)) := t_is (t_test (e_op hk hn rv_i0)) (decide_eq_decide.mpr Int.ofNat_lt)
theorem t_eqn {k n : Nat} (hk : Ev ta σ H (nV k)) (hn : Ev tb σ H (nV n)) : EvT (tTest (tOp rEq ta tb)) σ H (k == n) := t_is (t_test (e_op hk hn (rv_eq rfl))) (eq_nat k n)
theorem t_nil {l : List V} {a : Addr} (h : Ev te σ H (.ref a)) (hl : H a = some (.lst l)) : EvT (tTest (tOp rEq (tCB (fun ys H Q => ∃ p zs, ys = [.ref p] ∧ (SqL K H p zs ∨ SqT K H p zs) ∧ Q (.int zs.length) H) (tCons te tNil)) (tC (.int 0)))) σ H l.isEmpty := by
  refine t_is (t_eqn (k := l.length) (n := 0) (e_len h (SqL.of hl)) e_c) ?_
  cases l <;> rfl
theorem t_nilN {l : List V} (h : EvN te σ H (.lst l)) : EvT (tTest (tOp rEq (tCB (fun ys H Q => ∃ p zs, ys = [.ref p] ∧ (SqL K H p zs ∨ SqT K H p zs) ∧ Q (.int zs.length) H) (tCons te tNil)) (tC (.int 0)))) σ H l.isEmpty := by
  refine t_is (t_eqn (k := l.length) (n := 0) (e_lenN h) e_c) ?_
  cases l <;> rfl
theorem e_arg {n : Addr} {args : List V} {i : Nat} {v : V} (I : Inp H f q n args) (h : Ev te σ H (.ref n)) (hi : Ev ti σ H (nV i)) (hv : args[i]? = some v) : Ev (tOp (rIxL K) te ti) σ H v := e_at h (SqL.of I.nn) hi hv
/-- a, b = numbers -/
theorem s_unl2 {n : Addr} {x y : V} {i j : Nat} {tz : TS} (h : Ev te σ H (.ref n)) (hn : H n = some (.lst [x, y])) (k : ∀ H1, Xt H H1 → tz D ((σ.set i (some x)).set j (some y)) H1) : tSeq (tAsg te (gUnl K 2 (gCons (gName i) (gCons (gName j) gNil)))) tz D σ H :=
  h H (Xt.refl H) _ fun H1 e1 => ⟨n, [x, y], rfl, SqL.of (e1.k _ _ hn nt_lst), rfl, x, [y], rfl, y, [], rfl, rfl, k H1 e1⟩
/-- a walk over two lists of one length, where other things may change -/
theorem s_forZ {ta : TA} {a b : Addr} {xs ys : List V} {j l : Nat} {tb : TS} (h : EvVs ta σ H [.ref a, .ref b]) (hx : SqL K H a xs) (hy : SqL K H b ys) (hl : ys.length = xs.length) (Pv : Nat → L2.St → Hp → Prop) (h0 : ∀ H1, Xt H H1 → Pv 0 σ H1) (hG : ∀ i σ' H', Pv i σ' H' → SqL K H' a xs ∧ SqL K H' b ys)
    (hs : ∀ i σ' H', i < xs.length → Pv i σ' H' → ∀ H5, Xt H' H5 → tb { D with nx := Pv (i + 1), ct := Pv (i + 1), bk := D.nx } ((σ'.set j xs[i]?).set l ys[i]?) H5) (hd : ∀ σ' H', Pv xs.length σ' H' → D.nx σ' H') : tFor (iZip K ta) (gTup K 2 (gCons (gName j) (gCons (gName l) gNil))) tb D σ H :=
  h H (Xt.refl H) _ fun vs H1 e1 kv => by
    subst kv
    have W := walk_zip (K := K) (a := a) (b := b) (xs := xs) (ys := ys) (n := xs.length) (by omega)
    refine ⟨a, b, xs, ys, rfl, sq_mono e1 hx, sq_mono e1 hy, fun i m σ' H' => m = xs.length - i ∧ i ≤ xs.length ∧ Pv i σ' H', ⟨xs.length, by simp, Nat.zero_le _, h0 H1 e1⟩, ?_⟩
    rintro i m σ' H' ⟨rfl, hi, pv⟩
    by_cases hlt : i < xs.length
    · refine .inr ⟨W.goes i H' hlt (hG _ _ _ pv), Pv (i + 1), fun σ2 H2 h2 => ⟨xs.length - (i + 1), by omega, rfl, hlt, h2⟩, fun v H2 y => ?_⟩
      obtain ⟨T, x, z, rfl, nT, rfl, h1, h2⟩ := W.yields i H' v H2 hlt (hG _ _ _ pv) y
      refine pairs_asg nT fun H5 e5 => ?_
      have := hs i σ' H' hlt pv H5 e5
      dsimp only at h1 h2
      rw [h1, h2] at this
      exact this
    · have hi2 : i = xs.length := by omega
      subst hi2
      exact .inl ⟨W.stops H' (hG _ _ _ pv), hd σ' H' pv⟩
theorem s_forZS {ta : TA} {a b : Addr} {xs ys : List V} {j l : Nat} {tb tz : TS} (h : EvVs ta σ H [.ref a, .ref b]) (hx : SqL K H a xs) (hy : SqL K H b ys) (hl : ys.length = xs.length) (Pv : Nat → L2.St → Hp → Prop) (h0 : ∀ H1, Xt H H1 → Pv 0 σ H1) (hG : ∀ i σ' H', Pv i σ' H' → SqL K H' a xs ∧ SqL K H' b ys)
    (hs : ∀ i σ' H', i < xs.length → Pv i σ' H' → ∀ H5, Xt H' H5 → tb { D with nx := Pv (i + 1), ct := Pv (i + 1), bk := tz D } ((σ'.set j xs[i]?).set l ys[i]?) H5) (hd : ∀ σ' H', Pv xs.length σ' H' → tz D σ' H') : tSeq (tFor (iZip K ta) (gTup K 2 (gCons (gName j) (gCons (gName l) gNil))) tb) tz D σ H :=
  s_forZ (D := { D with nx := tz D }) h hx hy hl Pv h0 hG hs hd
/-- list(t) of a tuple -/
theorem n_listT {a : Addr} {xs : List V} (h : Ev te σ H (.ref a)) (hx : H a = some (.tup xs)) : EvN (tCB (fun ys H Q => ∃ p zs, ys = [.ref p] ∧ (SqL K H p zs ∨ SqT K H p zs) ∧ ∀ l, H l = none → Q (.ref l) (upd H l (.lst zs))) (tCons te tNil)) σ H (.lst xs) :=
  n_cb (a_cons h a_nil) (by
    rintro _ H1 e1 ⟨_, rfl, rfl⟩ H2 e2 Q q
    exact ⟨a, xs, rfl, .inr (SqT.of ((e1.trans e2).k _ _ hx nt_tup)), fun l hl => q l _ (.of hl) (.new hl) upd_same⟩)
end
section
variable {P : Program} {w : World} {K : PySem.W.Frag} {mg : Str → Option Value} {base : Heap}
/-! the machines' calls -/
def refusalR (q : Kyk.Laundry) (k : Nat) : Int := if q.machines.length ≤ k then -2 else if (Kyk.machine q k).broken then -4 else if Kyk.runs (Kyk.machine q k) then -16 else if (Kyk.chosen q k).isEmpty then -6 else 0
def spRunRef : Sp := fun vs H Q _ => ∃ (f : Hm) (q : Kyk.Laundry) (k : Nat), vs = [.ref f.p, nV k] ∧ HousAt H f q ∧ Ok q ∧ Tb H ∧ RetV (.int (refusalR q k)) H Q
theorem mac_of {H : Hp} {f : Hm} {q : Kyk.Laundry} (A : HousAt H f q) {k : Nat} (hk : ¬ q.machines.length ≤ k) : ∃ m a l, q.machines[k]? = some m ∧ f.ms[k]? = some a ∧ f.ls[k]? = some l ∧ MacAt H a l m ∧ Kyk.machine q k = m := by
  obtain ⟨m, hm⟩ := lt_get (l := q.machines) (i := k) (by omega)
  obtain ⟨a, ha⟩ := addr_at A.ml hm
  obtain ⟨l, hl⟩ := addr_at A.ll hm
  exact ⟨m, a, l, hm, ha, hl, A.mm k a l m ha hl hm, machine_get hm⟩
theorem MacAt.mono {H H' : Hp} {a l : Addr} {m : Kyk.Machine} (e : Xt H H') (M : MacAt H a l m) : MacAt H' a l m := by
  obtain ⟨dx, pr, h1, h2, h3⟩ := M
  refine ⟨dx, pr, e.k _ _ h1 nt_ins, e.k _ _ h2 nt_lst, fun z => ?_⟩
  obtain ⟨d, e4, e5⟩ := h3 z
  exact ⟨d, e4, e.k _ _ e5 nt_tup⟩
theorem OrdAt.mono {H H' : Hp} {a : Addr} {y : Kyk.Order} (e : Xt H H') (M : OrdAt H a y) : OrdAt H' a y := let ⟨dx, h⟩ := M; ⟨dx, e.k _ _ h nt_ins⟩
theorem t_runs {σ : L2.St} {H : Hp} {te : TE} {a l : Addr} {m : Kyk.Machine} (M : MacAt H a l m) (h : Ev te σ H (.ref a)) : EvT (tB (tMeth cMachine "is_running" spRunning [] C8.E0 te tNil)) σ H (Kyk.runs m) := by
  obtain ⟨dx, pr, h0, _⟩ := id M
  refine t_b (e_meth h h0 (macF_m (by decide +kernel)) a_nil ?_)
  rintro _ H3 e3 rfl Q3 q3
  exact ⟨a, l, m, rfl, M.mono e3, q3⟩
theorem t_broken (T : Txt K mg) {σ : L2.St} {H : Hp} {te : TE} {a l : Addr} {m : Kyk.Machine} (M : MacAt H a l m) (h : Ev te σ H (.ref a)) : EvT (tTest (tOp rEq (tFld K te "broken") (tC (.int 1)))) σ H m.broken := by
  refine t_is (t_eqn (k := rN m.broken) (n := 1) (e_mfld T M h T.n_Machine_broken fun _ => macF_broken) e_c) ?_
  cases m.broken <;> rfl
theorem n_wait {σ : L2.St} {H : Hp} {te ta : TE} {f : Hm} {q : Kyk.Laundry} {a : Addr} {k : Nat} (A : HousAt H f q) (ok : Ok q) (tb : Tb H) (h : Ev te σ H (.ref f.p)) (h2 : Ev ta σ H (.ref a)) (ha : f.ms[k]? = some a) : EvN (tMeth cHouse "waiting_for" spWaitFor [] C8.E0 te (tCons ta tNil)) σ H (.lst ((Kyk.chosen q k).map nV)) := by
  refine n_meth h A.h (houF_m (by decide +kernel)) (a_cons h2 a_nil) ?_
  rintro _ H2 e2 ⟨_, rfl, rfl⟩ Q2 q2
  exact ⟨f, q, k, a, rfl, A.mono e2, ok, e2.t tb, ha, q2⟩
theorem map_isEmpty {α β : Type} (g : α → β) (l : List α) : (l.map g).isEmpty = l.isEmpty := by cases l <;> rfl
theorem ok_runRef (T : Txt K mg) (w_waiting_for : C8.Met P w K mg base 7 cHouse "waiting_for" spWaitFor []) (w_is_running : C8.Met P w K mg base 1 cMachine "is_running" spRunning []) : C8.Cal P w K mg base 8 "run_refusal" spRunRef [] := by
  have nd := (C8.fnScope_by sc_run_refusal).nd
  refine mkCal1 T.d_run_refusal T.m_run_refusal (fun _ _ _ _ _ _ us hl => match us, hl with | [_, _], _ => rfl) sc_run_refusal ?len fun cdv A outer s H vs Q E hr h => ⟨_, (pss_cons (ps_if (pt_cmpR op_ge (pv 1) (pe_callB call_len_seq (by rfl) T.b_len (by decide +kernel) (pa_cons (pe_fld (pv 0) rfl) pa_nil)) (nomark _)) (pss_one (ps_ret (C8.pe_gc rfl T.g_NOT_THERE))) pss_nil)
      (pss_cons (ps_set (i := 2) nd rfl (Or.inl rfl) (pe_ix ix_list (pe_fld (pv 0) rfl) (pv 1) (fun _ _ => rfl)))
      (pss_cons (ps_if (pt_cmpR op_eq (pe_fld (pv 2) rfl) pe_int (nomark _)) (pss_one (ps_ret (C8.pe_gc rfl T.g_IS_BROKEN))) pss_nil)
      (pss_cons (ps_if (pt_val (C8.pe_mt0 w_is_running hr (by decide) (pv 2))) (pss_one (ps_ret (C8.pe_gc rfl T.g_WRONG_STATE))) pss_nil)
      (pss_cons (ps_if (pt_cmpR op_eq (pe_callB call_len_seq (by rfl) T.b_len (by decide +kernel) (pa_cons (C8.pe_mt w_waiting_for hr (by decide) (pv 0) (pa_cons (pv 2) pa_nil)) pa_nil)) pe_int (nomark _)) (pss_one (ps_ret (C8.pe_gc rfl T.g_NOTHING_THERE))) pss_nil)
      (pss_one (ps_ret pe_int))))))), ?body⟩
  case len =>
    rintro vs H Q E ⟨_, _, _, rfl, _⟩
    rfl
  case body =>
    obtain ⟨f, q, k, rfl, A, ok, tb, kk⟩ := h
    unfold refusalR at kk
    refine s_when (t_ge e_var (e_nm T A e_var)) (fun c H1 e1 => ?_) fun c H1 e1 => ?_
    · rw [if_pos (by simpa using c)] at kk
      exact s_ret e_c (kk.go e1)
    · have c : ¬ q.machines.length ≤ k := by simpa using c
      rw [if_neg c] at kk
      have A1 := A.mono e1
      obtain ⟨m, a, l, hm, ha, hl, M, em⟩ := mac_of A1 c
      rw [em] at kk
      refine s_asg (v := .ref a) (e_machine T A1 e_var e_var ha) fun H2 e2 => ?_
      refine s_when (t_broken T (M.mono e2) e_var) (fun c H3 e3 => ?_) fun c H3 e3 => ?_
      · rw [if_pos c] at kk
        exact s_ret e_c (kk.go (e1.trans (e2.trans e3)))
      · rw [if_neg (by rw [c]; exact Bool.false_ne_true)] at kk
        refine s_when (t_runs (M.mono (e2.trans e3)) e_var) (fun c H4 e4 => ?_) fun c H4 e4 => ?_
        · rw [if_pos c] at kk
          exact s_ret e_c (kk.go (e1.trans (e2.trans (e3.trans e4))))
        · rw [if_neg (by rw [c]; exact Bool.false_ne_true)] at kk
          have e14 := e2.trans (e3.trans e4)
          refine s_when (t_is (t_nilN (n_wait (A1.mono e14) ok ((e1.trans e14).t tb) e_var e_var ha)) (map_isEmpty _ _)) (fun c H5 e5 => ?_) fun c H5 e5 => ?_
          · rw [if_pos c] at kk
            exact s_ret e_c (kk.go (e1.trans (e14.trans e5)))
          · rw [if_neg (by rw [c]; exact Bool.false_ne_true)] at kk
            exact s_ret e_c (kk.go (e1.trans (e14.trans e5)))
end
end Wash
/-! The calls about machines. -/
namespace Wash
open PySem PySem.Spec PyProof.Rows L2
open Kyk (say)
theorem pairs_len : ∀ l : List (Nat × Nat), (l.flatMap fun y => [y.1, y.2]).length = 2 * l.length
  | [] => rfl
  | y :: l => by
    rw [List.flatMap_cons, List.length_append, pairs_len l]
    simp
    omega
theorem say_toL (z : Int) : toL (say z) = [z] := rfl
theorem toL_nat (c : Nat) (l : List Nat) : (toL ⟨(c : Int), l⟩).map V.int = (c :: l).map nV := by
  unfold toL KykNeutral.ints
  rw [List.map_cons, List.map_map, List.map_cons]
  rfl
theorem toL_one (c : Nat) : toL (say (c : Int)) = [(c : Int)] := rfl
/-! the plan of a machine -/
structure Chosen (q : Kyk.Laundry) (k : Nat) : Prop where
  len : (Kyk.chosen q k).length ≤ 8
  mem : ∀ i ∈ Kyk.chosen q k, i < q.items.length ∧ (Kyk.item q i).w ≤ (Kyk.machine q k).bears ∧ waitsB q (Kyk.item q i) = true
theorem chosen_of (q : Kyk.Laundry) (k : Nat) : Chosen q k := ⟨by
  unfold Kyk.chosen
  rw [List.length_take]
  exact Nat.min_le_left _ _, fun i hi => by
  have h1 := List.mem_of_mem_take hi
  obtain ⟨h2, h3⟩ := List.mem_filter.mp h1
  obtain ⟨h4, h5⟩ := waiting_mem h2
  exact ⟨h4, of_decide_eq_true h3, h5⟩⟩
theorem chosen_alone {q : Kyk.Laundry} (ok : Ok q) (k : Nat) : ∀ z ∈ (Kyk.chosen q k).map (Kyk.piece q), Kyk2.load (Kyk.machine q k).bears [z] = true := fun z hz => by
  obtain ⟨i, hi, rfl⟩ := List.mem_map.mp hz
  obtain ⟨h1, h2, _⟩ := (chosen_of q k).mem i hi
  obtain ⟨y, hy⟩ := lt_get h1
  show Kyk2.load _ [pc (Kyk.item q i)] = true
  rw [item_get hy] at h2 ⊢
  exact load1 (ok.tog y (List.mem_of_getElem? hy)) h2
theorem shares_some {q : Kyk.Laundry} (ok : Ok q) {k : Nat} (hne : Kyk.chosen q k ≠ []) : ∃ c b, Kyk.shares q k = some (c, b) ∧ Kyk2.best (Kyk.machine q k).bears ((Kyk.chosen q k).map (Kyk.piece q)) = some (c, b) ∧ b.length = (Kyk.chosen q k).length ∧ Good (Kyk.machine q k).bears ((Kyk.chosen q k).map (Kyk.piece q)) b ∧ maxN b + 1 = c := by
  obtain ⟨c, b, h1, _, _, _, _, h2, h3, h4, h5⟩ := best_fin (chosen_alone ok k) (by simpa using hne)
  refine ⟨c, b, h1, h1, by rw [h2, List.length_map], h3, ?_⟩
  obtain ⟨i, hi, e⟩ := h5
  have : i = maxN b := is_max hi fun y hy => by have := h4 y hy; omega
  omega
section
variable {P : Program} {w : World} {K : PySem.W.Frag} {mg : Str → Option Value} {base : Heap}
theorem x_plan {σ : L2.St} {H : Hp} {te tn ta : TE} {f : Hm} {q : Kyk.Laundry} {a n : Addr} {k c : Nat} {b : List Nat} (A : HousAt H f q) (ok : Ok q) (h : Ev te σ H (.ref f.p)) (hn : Ev tn σ H (.ref n)) (h2 : Ev ta σ H (.ref a)) (ha : f.ms[k]? = some a) (hl : H n = some (.lst ((Kyk.chosen q k).map nV)))
    (hne : Kyk.chosen q k ≠ []) (hb : Kyk2.best (Kyk.machine q k).bears ((Kyk.chosen q k).map (Kyk.piece q)) = some (c, b)) : EvX (tMeth cHouse "plan_of" spPlanOf [] C8.E0 te (tCons tn (tCons ta tNil))) σ H (b.map nV) := by
  refine x_meth h A.h (houF_m (by decide +kernel)) (a_cons hn (a_cons h2 a_nil)) ?_
  rintro _ H2 e2 ⟨_, rfl, _, rfl, rfl⟩ Q2 q2
  have C := chosen_of q k
  exact ⟨f, q, k, a, n, Kyk.chosen q k, rfl, A.mono e2, ok, ha, e2.k _ _ hl nt_lst, hne, C.len, fun i hi => ⟨(C.mem i hi).1, (C.mem i hi).2.1⟩, fun c' b' hb' p H3 e3 hp => by
    rw [hb] at hb'
    cases hb'
    exact q2 p H3 e3 hp⟩
def planR (q : Kyk.Laundry) (k : Nat) : Kyk.Ans := if q.machines.length ≤ k then say (-2) else if (Kyk.chosen q k).isEmpty then say (-6) else match Kyk.shares q k with
  | none => say (-6)
  | some x => ⟨(x.1 : Nat), (Kyk.chosen q k).length :: ((Kyk.chosen q k).zip x.2).flatMap fun y => [y.1, y.2]⟩
def spPlan : Sp := fun vs H Q _ => ∃ (f : Hm) (q : Kyk.Laundry) (n : Addr) (k : Nat), vs = [.ref f.p, .ref n] ∧ Inp H f q n [nV k] ∧ Done f H Q q (toL (planR q k))
theorem ok_plan (T : Txt K mg) (w_waiting_for : C8.Met P w K mg base 7 cHouse "waiting_for" spWaitFor []) (w_plan_of : C8.Met P w K mg base 16 cHouse "plan_of" spPlanOf []) : C8.Cal P w K mg base 17 "plan" spPlan [] ∧ C8.CalAt P w K mg base 17 320 spPlan := by
  have nd := (C8.fnScope_by sc_plan).nd
  refine mkCal T.d_plan T.m_plan (fun _ _ _ _ _ _ us hl => match us, hl with | [_, _], _ => rfl) sc_plan ?len fun cdv A outer s H vs Q E hr h => ⟨_, (pss_cons (ps_set (i := 2) nd rfl (Or.inl rfl) (pe_ix ix_list (pv 1) pe_int (fun _ _ => rfl)))
      (pss_cons (ps_if (pt_cmpR op_ge (pv 2) (pe_callB call_len_seq (by rfl) T.b_len (by decide +kernel) (pa_cons (pe_fld (pv 0) rfl) pa_nil)) (nomark _)) (pss_one (ps_ret (pe_lst (pa_cons (C8.pe_gc rfl T.g_NOT_THERE) pa_nil)))) pss_nil)
      (pss_cons (ps_set (i := 3) nd rfl (Or.inl rfl) (pe_ix ix_list (pe_fld (pv 0) rfl) (pv 2) (fun _ _ => rfl)))
      (pss_cons (ps_set (i := 4) nd rfl (Or.inl rfl) (C8.pe_mt w_waiting_for hr (by decide) (pv 0) (pa_cons (pv 3) pa_nil)))
      (pss_cons (ps_if (pt_cmpR op_eq (pe_callB call_len_seq (by rfl) T.b_len (by decide +kernel) (pa_cons (pv 4) pa_nil)) pe_int (nomark _)) (pss_one (ps_ret (pe_lst (pa_cons (C8.pe_gc rfl T.g_NOTHING_THERE) pa_nil)))) pss_nil)
      (pss_cons (ps_set (i := 5) nd rfl (Or.inl rfl) (C8.pe_mt w_plan_of hr (by decide) (pv 0) (pa_cons (pv 4) (pa_cons (pv 3) pa_nil))))
      (pss_cons (ps_set (i := 6) nd rfl (Or.inl rfl) (pe_lst (pa_cons (pe_op op_add (pe_callB (cr_max rfl) (by rfl) T.b_max (by decide +kernel) (pa_cons (pv 5) pa_nil)) pe_int) (pa_cons (pe_callB call_len_seq (by rfl) T.b_len (by decide +kernel) (pa_cons (pv 5) pa_nil)) pa_nil))))
      (pss_cons (ps_for PassesOwn.never rfl (pi_zip (by rfl) T.b_zip (pa_cons (pv 4) (pa_cons (pv 5) pa_nil))) (pg_tup (by rfl) (pgs_cons (pg_name (i := 7) nd rfl (Or.inl rfl)) (pgs_cons (pg_name (i := 8) nd rfl (Or.inl rfl)) pgs_nil))) (pss_one (ps_expr (pe_bm PySem.F.plainAttrs_list PySem.F.slot_list_extend PySem.F.type_list_extend mt_extend (pv 6) (pa_cons (pe_lst (pa_cons (pv 7) (pa_cons (pv 8) pa_nil))) pa_nil)))))
      (pss_one (ps_ret (pv 6))))))))))), ?body⟩
  case len =>
    rintro vs H Q E ⟨_, _, _, _, rfl, _⟩
    rfl
  case body =>
    obtain ⟨f, q, n, k, rfl, I, kk⟩ := h
    have A := I.A
    unfold planR at kk
    refine s_asg (v := nV k) (e_arg (i := 0) I e_var e_c rfl) fun H1 e1 => ?_
    have A1 := A.mono e1
    refine s_when (t_ge e_var (e_nm T A1 e_var)) (fun c H2 e2 => ?_) fun c H2 e2 => ?_
    · rw [if_pos (by simpa using c)] at kk
      exact s_say e_c rfl (kk.rd A (e1.trans e2))
    · have c : ¬ q.machines.length ≤ k := by simpa using c
      rw [if_neg c] at kk
      have A2 := A1.mono e2
      obtain ⟨m, a, l, hm, ha, hl, M, em⟩ := mac_of A2 c
      refine s_asg (v := .ref a) (e_machine T A2 e_var e_var ha) fun H3 e3 => ?_
      have e13 := e1.trans (e2.trans e3)
      refine s_asgN (o := .lst ((Kyk.chosen q k).map nV)) (n_wait (A.mono e13) I.ok (e13.t I.tb) e_var e_var ha) fun wa H4 nw e4 hw => ?_
      refine s_when (t_is (t_nil e_var hw) (map_isEmpty _ _)) (fun c H5 e5 => ?_) fun c H5 e5 => ?_
      · rw [if_pos c] at kk
        exact s_say e_c rfl (kk.rd A (e13.trans (e4.trans e5)))
      · rw [if_neg (by rw [c]; exact Bool.false_ne_true)] at kk
        have hne : Kyk.chosen q k ≠ [] := fun z => by
          rw [z] at c
          cases c
        obtain ⟨cc, b, hs, hb, hlen, _, hmx⟩ := shares_some I.ok hne
        rw [hs] at kk
        dsimp only at kk
        have e15 := e13.trans (e4.trans e5)
        refine s_asgX (x_plan (A.mono e15) I.ok e_var e_var e_var ha (e5.k _ _ hw nt_lst) hne hb) fun way H6 e6 hwy => ?_
        have bne : b ≠ [] := fun z => by
          rw [z] at hlen
          exact hne (List.length_eq_zero_iff.mp hlen.symm)
        have e16 := e15.trans e6
        have hw6 := (e5.trans e6).k _ _ hw nt_lst
        refine s_asgN (o := .lst [nV cc, nV (Kyk.chosen q k).length]) ?_ fun p H7 np e7 hp => ?_
        · refine n_lst (v_cons (e_is (e_op (x := nV (maxN b)) (e_cb (a_cons e_var a_nil) ?_) e_c rv_i0) (by rw [← hmx]; rfl)) (v_cons (e_is (e_len e_var (SqL.of hwy)) (by rw [List.length_map, hlen])) v_nil)) (by show 2 ≤ 100000; decide)
          rintro _ H8 e8 ⟨_, rfl, rfl⟩ H9 e9 Q9 q9
          refine ⟨way, b.map fun n : Nat => (n : Int), rfl, by rw [map_int]; exact SqL.of ((e8.trans e9).k _ _ hwy nt_lst), by rw [List.length_map]; exact List.length_pos_iff.mpr bne, fun m hm hle => ?_⟩
          obtain ⟨n, hn, rfl⟩ := List.mem_map.mp hm
          rw [show n = maxN b from is_max hn fun y hy => by have := hle y (List.mem_map.mpr ⟨y, hy, rfl⟩); omega]
          exact q9 H9 (Xt.refl _)
        · have lz : ((Kyk.chosen q k).zip b).length = (Kyk.chosen q k).length := by
            rw [List.length_zip]
            omega
          have c8 := (chosen_of q k).len
          have wp : wa ≠ p := np.ne hw6 nt_lst
          have yp : way ≠ p := np.ne hwy nt_lst
          have fl : ∀ i, (((((Kyk.chosen q k).zip b).take i).flatMap fun y => [y.1, y.2])).length = 2 * min i (Kyk.chosen q k).length := fun i => by
            rw [pairs_len, List.length_take, lz]
          refine s_forZS (a := wa) (b := way) (v_cons e_var (v_cons e_var v_nil)) (SqL.of (e7.k _ _ hw6 nt_lst)) (SqL.of (e7.k _ _ hwy nt_lst)) (by rw [List.length_map, List.length_map, hlen]) (fun i σ' H' => ∃ s7 s8, σ' = [some (.ref f.p), some (.ref n), some (nV k), some (.ref a), some (.ref wa), some (.ref way), some (.ref p), s7, s8] ∧ (∀ b o, b ≠ p → H6 b = some o → NT o → H' b = some o) ∧ (Tb H6 → Tb H') ∧ H' p = some (.lst ((cc :: (Kyk.chosen q k).length :: (((Kyk.chosen q k).zip b).take i).flatMap fun y => [y.1, y.2]).map nV)))
            (fun H8 e8 => ⟨none, none, rfl, fun b o _ e nn => (e7.trans e8).k _ _ e nn, (e7.trans e8).t, e8.k _ _ hp nt_lst⟩) (fun i σ' H' h => ?_) (fun i σ' H' hi h H8 e8 => ?_) fun σ' H' h => ?_
          · obtain ⟨_, _, _, h1, _, _⟩ := h
            exact ⟨SqL.of (h1 _ _ wp hw6 nt_lst), SqL.of (h1 _ _ yp hwy nt_lst)⟩
          · obtain ⟨s7, s8, rfl, h1, h2, h3⟩ := h
            rw [List.length_map] at hi
            obtain ⟨x, hx⟩ := lt_get hi
            obtain ⟨y, hy⟩ := lt_get (l := b) (i := i) (by omega)
            have h38 := e8.k _ _ h3 nt_lst
            have hL : ∀ σ0 : L2.St, σ0[7]? = some (some (nV x)) → σ0[8]? = some (some (nV y)) → EvN (tLst (tCons (tVar 7) (tCons (tVar 8) tNil))) σ0 H8 (.lst [nV x, nV y]) := fun σ0 h7 h8 => n_lst (v_cons (e_var h7) (v_cons (e_var h8) v_nil)) (by show 2 ≤ 100000; decide)
            refine ⟨.ref p, rfl, .inl ⟨rfl, _, SqL.of h38⟩, ?_⟩
            refine (a_consN nt_lst (hL _ (congrArg some (nat_at hx)) (congrArg some (nat_at hy))) a_nil) H8 (Xt.refl _) _ fun vs H10 e10 hv => ?_
            obtain ⟨d, _, rfl, nd, hd, rfl⟩ := hv
            have h310 := e10.k _ _ h38 nt_lst
            refine ⟨p, d, _, _, rfl, rfl, h310, hd, szl ?_, _, _, rfl, fun b o nb e nn => ?_, fun z => tb_upd h310 nt_lst nl ((e8.trans e10).t (h2 z)), ?_⟩
            · rw [List.length_map, List.length_cons, List.length_cons, fl]
              simp
              omega
            · rw [upd_ne nb]
              exact (e8.trans e10).k _ _ (h1 _ _ nb e nn) nn
            · rw [upd_same]
              have hz : ((Kyk.chosen q k).zip b)[i]? = some (x, y) := by rw [List.getElem?_zip_eq_some]; exact ⟨hx, hy⟩
              rw [List.take_add_one, hz]
              show _ = some (HO.lst (List.map nV (_ :: _ :: List.flatMap _ (_ ++ [(x, y)]))))
              rw [List.flatMap_append, List.map_cons, List.map_cons, List.map_cons, List.map_cons, List.map_append]
              rfl
          · obtain ⟨s7, s8, rfl, h1, h2, h3⟩ := h
            rw [List.length_map, List.take_of_length_le (by omega)] at h3
            have h3' : H' p = some (.lst ((toL ⟨(cc : Int), (Kyk.chosen q k).length :: ((Kyk.chosen q k).zip b).flatMap fun y => [y.1, y.2]⟩).map V.int)) := by
              rw [toL_nat]
              exact h3
            refine s_ret (v := .ref p) e_var fun H9 e9 => ?_
            have x6 : Xt H H9 := ⟨fun b o e nn => ?_, fun z => e9.t (h2 (e16.t z))⟩
            · exact kk H9 f p rfl (Kp.of x6) (A.mono x6) (e9.k _ _ h3' nt_lst) (fun b xs nb e z => by
                have := e16.k _ _ e nt_lst
                rw [← z] at this
                exact np _ this nt_lst) fun z => by
                obtain ⟨xs, e⟩ := foot_lst (A.mono e16) z
                exact np _ e nt_lst
            · have e6' := e16.k _ _ e nn
              have bp : b ≠ p := np.ne e6' nn
              exact e9.k _ _ (h1 b o bp e6' nn) nn
end
end Wash
namespace Wash
open PySem PySem.Spec PyProof.Rows L2
open Kyk (say)
theorem fin_one {v : V} {H1 : Hp} {Q : VK} (k : RetN (.lst [v]) H1 Q) : ([v] : List V).length ≤ sizeLine ∧ ∀ p, H1 p = none → Q (.ref p) (upd H1 p (.lst [v])) := ⟨szl (by show 1 ≤ 100000; decide), fun p hp => k p _ (.of hp) (.new hp) upd_same⟩
theorem flat_sub {α β : Type} {g : α → List β} : ∀ {l : List α} {x : α}, x ∈ l → (g x).Sublist (l.flatMap g)
  | [], _, h => nomatch h
  | a :: l, x, h => by
    rw [List.flatMap_cons]
    rcases List.mem_cons.mp h with rfl | h
    · exact List.sublist_append_left _ _
    · exact (flat_sub h).trans (List.sublist_append_right _ _)
theorem set_same {α : Type} {l : List α} {i : Nat} {x : α} (h : l[i]? = some x) : l.set i x = l := List.ext_getElem? fun j => by
  rw [List.getElem?_set]
  by_cases e : i = j
  · subst e
    rw [if_pos rfl, if_pos (List.getElem?_eq_some_iff.mp h).1, h]
  · rw [if_neg e]
section
variable {P : Program} {w : World} {K : PySem.W.Frag} {mg : Str → Option Value} {base : Heap}
def tellMacR (q : Kyk.Laundry) (k : Nat) : Kyk.Ans := if q.machines.length ≤ k then say (-2) else if (Kyk.machine q k).broken then ⟨2, []⟩ else if Kyk.runs (Kyk.machine q k) then ⟨1, (Kyk.machine q k).until_ :: Kyk1.programNumbers (Kyk.machine q k).p⟩ else ⟨0, []⟩
def spTellMac : Sp := fun vs H Q _ => ∃ (f : Hm) (q : Kyk.Laundry) (n : Addr) (k : Nat), vs = [.ref f.p, .ref n] ∧ Inp H f q n [nV k] ∧ Done f H Q q (toL (tellMacR q k))
theorem runs_load {m : Kyk.Machine} (h : Kyk.runs m = true) : m.load ≠ [] := fun z => by
  unfold Kyk.runs at h
  rw [z] at h
  cases h
theorem ok_tellMac (T : Txt K mg) (w_is_running : C8.Met P w K mg base 1 cMachine "is_running" spRunning []) : C8.Cal P w K mg base 2 "tell_machine" spTellMac [] ∧ C8.CalAt P w K mg base 2 353 spTellMac := by
  have nd := (C8.fnScope_by sc_tell_machine).nd
  refine mkCal T.d_tell_machine T.m_tell_machine (fun _ _ _ _ _ _ us hl => match us, hl with | [_, _], _ => rfl) sc_tell_machine ?len fun cdv A outer s H vs Q E hr h => ⟨_, (pss_cons (ps_set (i := 2) nd rfl (Or.inl rfl) (pe_ix ix_list (pv 1) pe_int (fun _ _ => rfl)))
      (pss_cons (ps_if (pt_cmpR op_ge (pv 2) (pe_callB call_len_seq (by rfl) T.b_len (by decide +kernel) (pa_cons (pe_fld (pv 0) rfl) pa_nil)) (nomark _)) (pss_one (ps_ret (pe_lst (pa_cons (C8.pe_gc rfl T.g_NOT_THERE) pa_nil)))) pss_nil)
      (pss_cons (ps_set (i := 3) nd rfl (Or.inl rfl) (pe_ix ix_list (pe_fld (pv 0) rfl) (pv 2) (fun _ _ => rfl)))
      (pss_cons (ps_if (pt_cmpR op_eq (pe_fld (pv 3) rfl) pe_int (nomark _)) (pss_one (ps_ret (pe_lst (pa_cons (C8.pe_gc rfl T.g_IS_OUT) pa_nil)))) pss_nil)
      (pss_cons (ps_if (pt_not (pt_val (C8.pe_mt0 w_is_running hr (by decide) (pv 3)))) (pss_one (ps_ret (pe_lst (pa_cons (C8.pe_gc rfl T.g_IS_EMPTY) pa_nil)))) pss_nil)
      (pss_one (ps_ret (pe_op op_cat (pe_lst (pa_cons (C8.pe_gc rfl T.g_IS_RUNNING) (pa_cons (pe_fld (pv 3) rfl) pa_nil))) (pe_callTy call_list_of (by rfl) T.b_list (by decide +kernel) (pa_cons (pe_fld (pv 3) rfl) pa_nil)))))))))), ?body⟩
  case len =>
    rintro vs H Q E ⟨_, _, _, _, rfl, _⟩
    rfl
  case body =>
    obtain ⟨f, q, n, k, rfl, I, kk⟩ := h
    have A := I.A
    unfold tellMacR at kk
    refine s_asg (v := nV k) (e_arg (i := 0) I e_var e_c rfl) fun H1 e1 => ?_
    have A1 := A.mono e1
    refine s_when (t_ge e_var (e_nm T A1 e_var)) (fun c H2 e2 => ?_) fun c H2 e2 => ?_
    · rw [if_pos (by simpa using c)] at kk
      exact s_say e_c rfl (kk.rd A (e1.trans e2))
    · have c : ¬ q.machines.length ≤ k := by simpa using c
      rw [if_neg c] at kk
      have A2 := A1.mono e2
      obtain ⟨m, a, l, hm, ha, hl, M, em⟩ := mac_of A2 c
      rw [em] at kk
      refine s_asg (v := .ref a) (e_machine T A2 e_var e_var ha) fun H3 e3 => ?_
      refine s_when (t_broken T (M.mono e3) e_var) (fun c H4 e4 => ?_) fun c H4 e4 => ?_
      · rw [if_pos c] at kk
        exact s_say e_c rfl (kk.rd A (e1.trans (e2.trans (e3.trans e4))))
      · rw [if_neg (by rw [c]; exact Bool.false_ne_true)] at kk
        have e14 := e1.trans (e2.trans (e3.trans e4))
        have M4 := M.mono (e3.trans e4)
        refine s_when (t_not (t_runs M4 e_var)) (fun c H5 e5 => ?_) fun c H5 e5 => ?_
        · rw [if_neg (by simpa using c)] at kk
          exact s_say e_c rfl (kk.rd A (e14.trans e5))
        · have c : Kyk.runs m = true := by simpa using c
          rw [if_pos c] at kk
          obtain ⟨dx, pr, h0, h1, h2⟩ := M4.mono e5
          obtain ⟨g, rfl, hg⟩ := h2 (runs_load c)
          have k2 := kk.rd A (e14.trans e5)
          have k2 : RetN (.lst ([nV 1, nV m.until_] ++ progV m.p)) H5 Q := by
            rw [show ((1 : Int)) = ((1 : Nat) : Int) from rfl, toL_nat] at k2
            exact k2
          exact s_retN (n_catNN (n_lst (v_cons e_c (v_cons (e_fld e_var h0 T.c_Machine T.n_Machine_until macF_until) v_nil)) (by show 2 ≤ 100000; decide)) (n_listT (e_fld e_var h0 T.c_Machine T.n_Machine_program macF_program) hg) (by show 2 + 4 ≤ 100000; decide)) k2
def insideR (q : Kyk.Laundry) (k : Nat) : Kyk.Ans := if q.machines.length ≤ k then say (-2) else ⟨((Kyk.machine q k).load.length : Nat), (Kyk.machine q k).load⟩
def spInside : Sp := fun vs H Q _ => ∃ (f : Hm) (q : Kyk.Laundry) (n : Addr) (k : Nat), vs = [.ref f.p, .ref n] ∧ Inp H f q n [nV k] ∧ Done f H Q q (toL (insideR q k))
theorem load_len {q : Kyk.Laundry} (ok : Ok q) {m : Kyk.Machine} (h : m ∈ q.machines) : m.load.length ≤ q.items.length := by
  have nd : m.load.Nodup := ok.ndl.sublist (flat_sub h)
  have := List.Nodup.length_le_of_subset (l₂ := List.range q.items.length) nd fun i hi => by
    obtain ⟨y, hy, _⟩ := ok.lod m h i hi
    exact List.mem_range.mpr (List.getElem?_eq_some_iff.mp hy).1
  rw [List.length_range] at this
  exact this
theorem ok_inside (T : Txt K mg) : C8.Cal P w K mg base 1 "tell_inside" spInside [] ∧ C8.CalAt P w K mg base 1 360 spInside := by
  have nd := (C8.fnScope_by sc_tell_inside).nd
  refine mkCal T.d_tell_inside T.m_tell_inside (fun _ _ _ _ _ _ us hl => match us, hl with | [_, _], _ => rfl) sc_tell_inside ?len fun cdv A outer s H vs Q E hr h => ⟨_, (pss_cons (ps_set (i := 2) nd rfl (Or.inl rfl) (pe_ix ix_list (pv 1) pe_int (fun _ _ => rfl)))
      (pss_cons (ps_if (pt_cmpR op_ge (pv 2) (pe_callB call_len_seq (by rfl) T.b_len (by decide +kernel) (pa_cons (pe_fld (pv 0) rfl) pa_nil)) (nomark _)) (pss_one (ps_ret (pe_lst (pa_cons (C8.pe_gc rfl T.g_NOT_THERE) pa_nil)))) pss_nil)
      (pss_cons (ps_set (i := 3) nd rfl (Or.inl rfl) (pe_fld (pe_ix ix_list (pe_fld (pv 0) rfl) (pv 2) (fun _ _ => rfl)) rfl))
      (pss_one (ps_ret (pe_op op_cat (pe_lst (pa_cons (pe_callB call_len_seq (by rfl) T.b_len (by decide +kernel) (pa_cons (pv 3) pa_nil)) pa_nil)) (pv 3))))))), ?body⟩
  case len =>
    rintro vs H Q E ⟨_, _, _, _, rfl, _⟩
    rfl
  case body =>
    obtain ⟨f, q, n, k, rfl, I, kk⟩ := h
    have A := I.A
    unfold insideR at kk
    refine s_asg (v := nV k) (e_arg (i := 0) I e_var e_c rfl) fun H1 e1 => ?_
    have A1 := A.mono e1
    refine s_when (t_ge e_var (e_nm T A1 e_var)) (fun c H2 e2 => ?_) fun c H2 e2 => ?_
    · rw [if_pos (by simpa using c)] at kk
      exact s_say e_c rfl (kk.rd A (e1.trans e2))
    · have c : ¬ q.machines.length ≤ k := by simpa using c
      rw [if_neg c] at kk
      have A2 := A1.mono e2
      obtain ⟨m, a, l, hm, ha, hl, M, em⟩ := mac_of A2 c
      rw [em] at kk
      refine s_asg (v := .ref l) (e_mfld T M (e_machine T A2 e_var e_var ha) T.n_Machine_inside fun _ => macF_inside) fun H3 e3 => ?_
      have ll := load_len I.ok (List.mem_of_getElem? hm)
      have nit := I.ok.nit
      obtain ⟨dx, pr, h0, h1, h2⟩ := M.mono e3
      have k2 := kk.rd A (e1.trans (e2.trans e3))
      rw [toL_nat] at k2
      refine s_retN (n_catN (n_lst (v_cons (e_is (e_len e_var (SqL.of h1)) (by rw [List.length_map])) v_nil) (by show 1 ≤ 100000; decide)) e_var h1 (by rw [List.length_map]; show 1 + _ ≤ _; omega)) k2
def nextR (q : Kyk.Laundry) : Kyk.Ans := match (q.machines.filter Kyk.runs).map fun m => m.until_ with
  | [] => say (-6)
  | a :: l => say ((l.foldl min a : Nat) : Int)
def spNext : Sp := fun vs H Q _ => ∃ (f : Hm) (q : Kyk.Laundry) (n : Addr), vs = [.ref f.p, .ref n] ∧ Inp H f q n [] ∧ Done f H Q q (toL (nextR q))
theorem ok_next (T : Txt K mg) (w_is_running : C8.Met P w K mg base 1 cMachine "is_running" spRunning []) : C8.Cal P w K mg base 2 "tell_next" spNext [] ∧ C8.CalAt P w K mg base 2 365 spNext := by
  have nd := (C8.fnScope_by sc_tell_next).nd
  refine mkCal T.d_tell_next T.m_tell_next (fun _ _ _ _ _ _ us hl => match us, hl with | [_, _], _ => rfl) sc_tell_next ?len fun cdv A outer s H vs Q E hr h => ⟨_, (pss_cons (ps_setLc (i := 2) (own := [("machine", 3)]) (te := (tFld K (tVar 3) "until")) (tt := (tB (tMeth cMachine "is_running" spRunning [] C8.E0 (tVar 3) tNil))) rfl nd rfl rfl (sw_true rfl rfl rfl (by decide +kernel)) (pi_list (pe_fld (pv 0) rfl)) (blkOk_by (own := [("machine", 3)]) (N := N_tell_next) (sc := C8.fnScope s_tell_next) (by decide +kernel)) (fun _ _ _ _ _ => (pg_name (i := 3) nd rfl (Or.inl rfl))) (fun _ _ _ _ _ => (pts_one (pt_val (C8.pe_mt0 w_is_running hr (by decide) (pv 3))))) (fun _ _ _ _ _ => (pe_fld (pv 3) rfl)))
      (pss_cons (ps_if (pt_cmpR op_eq (pe_callB call_len_seq (by rfl) T.b_len (by decide +kernel) (pa_cons (pv 2) pa_nil)) pe_int (nomark _)) (pss_one (ps_ret (pe_lst (pa_cons (C8.pe_gc rfl T.g_NOTHING_THERE) pa_nil)))) pss_nil)
      (pss_one (ps_ret (pe_lst (pa_cons (pe_callB (cr_min rfl) (by rfl) T.b_min (by decide +kernel) (pa_cons (pv 2) pa_nil)) pa_nil)))))), ?body⟩
  case len =>
    rintro vs H Q E ⟨_, _, _, rfl, _⟩
    rfl
  case body =>
    obtain ⟨f, q, n, rfl, I, kk⟩ := h
    have A := I.A
    have nma := I.ok.nma
    refine s_asgN (o := .lst ((q.machines.filter Kyk.runs).map fun m => nV m.until_)) ?_ fun p H1 np e1 hp => ?_
    · refine n_lc q.machines Kyk.runs _ (w_list (e_machines T A e_var) (SqL.of A.m)) (by rw [List.length_map, A.ml]) (by rw [List.length_map, A.ml]; omega) fun i m H1 e1 hm => ⟨rfl, ?_, fun _ => ?_⟩
      · obtain ⟨a, ha⟩ := addr_at A.ml hm
        obtain ⟨l, hl⟩ := addr_at A.ll hm
        exact t_runs ((A.mm i a l m ha hl hm).mono e1) (e_var (v := .ref a) (congrArg some (ref_at ha)))
      · obtain ⟨a, ha⟩ := addr_at A.ml hm
        obtain ⟨l, hl⟩ := addr_at A.ll hm
        exact e_mfld T ((A.mm i a l m ha hl hm).mono e1) (e_var (v := .ref a) (congrArg some (ref_at ha))) T.n_Machine_until fun _ => macF_until
    · unfold nextR at kk
      have em : (q.machines.filter Kyk.runs).map (fun m => nV m.until_) = ((q.machines.filter Kyk.runs).map fun m => m.until_).map nV := by rw [List.map_map] <;> rfl
      rw [em] at hp
      generalize (q.machines.filter Kyk.runs).map (fun m => m.until_) = ms at hp kk
      refine s_when (t_is (t_nil e_var hp) (map_isEmpty _ _)) (fun c H2 e2 => ?_) fun c H2 e2 => ?_
      · cases ms with
        | nil => exact s_say e_c rfl (kk.rd A (e1.trans e2))
        | cons a l => cases c
      · cases ms with
        | nil => cases c
        | cons a l =>
          refine s_say (z := ((l.foldl min a : Nat) : Int)) (e_cb (a_cons e_var a_nil) ?_) rfl (kk.rd A (e1.trans e2))
          rintro _ H8 e8 ⟨_, rfl, rfl⟩ H9 e9 Q9 q9
          refine ⟨p, (a :: l).map fun n : Nat => (n : Int), rfl, by rw [map_int]; exact SqL.of ((e2.trans (e8.trans e9)).k _ _ hp nt_lst), by simp, fun m hm hle => ?_⟩
          obtain ⟨x, hx, rfl⟩ := List.mem_map.mp hm
          have le : ∀ y ∈ a :: l, x ≤ y := fun y hy => by
            have := hle y (List.mem_map.mpr ⟨y, hy, rfl⟩)
            omega
          have h1 := foldl_min_le l a
          have h2 := foldl_min_in l a
          have ex : x = l.foldl min a := by
            have g1 : l.foldl min a ≤ x := by
              rcases List.mem_cons.mp hx with rfl | hx
              · exact h1.1
              · exact h1.2 x hx
            have g2 : x ≤ l.foldl min a := by
              rcases h2 with e | e
              · rw [e]
                exact le a List.mem_cons_self
              · exact le _ (List.mem_cons_of_mem _ e)
            omega
          rw [← ex] at q9
          exact q9 H9 (Xt.refl _)
def tickQ (q : Kyk.Laundry) (t : Nat) : Kyk.Laundry × Kyk.Ans := if t < q.now ∨ 1000000 < t then (q, say (-22)) else (Kyk.till q t, say ((overL t q.machines).length : Nat))
def spTick : Sp := fun vs H Q _ => ∃ (f : Hm) (q : Kyk.Laundry) (n : Addr) (t : Nat), vs = [.ref f.p, .ref n] ∧ Inp H f q n [nV t] ∧ Done f H Q (tickQ q t).1 (toL (tickQ q t).2)
theorem houF_putN {price till now now' : Int} {m o t : Addr} : putF "now" (.int now') (houF price till now m o t) = houF price till now' m o t := rfl
theorem ok_tick (T : Txt K mg) (w_wash_what_is_over : C8.Met P w K mg base 2 cHouse "wash_what_is_over" spWash []) : C8.Cal P w K mg base 3 "tick" spTick [] ∧ C8.CalAt P w K mg base 3 339 spTick := by
  have nd := (C8.fnScope_by sc_tick).nd
  refine mkCal T.d_tick T.m_tick (fun _ _ _ _ _ _ us hl => match us, hl with | [_, _], _ => rfl) sc_tick ?len fun cdv A outer s H vs Q E hr h => ⟨_, (pss_cons (ps_set (i := 2) nd rfl (Or.inl rfl) (pe_ix ix_list (pv 1) pe_int (fun _ _ => rfl)))
      (pss_cons (ps_if (pt_not (pt_chain op_le op_le (pe_fld (pv 0) rfl) (pv 2) (C8.pe_gc rfl T.g_LAST_MINUTE))) (pss_one (ps_ret (pe_lst (pa_cons (C8.pe_gc rfl T.g_OUT_OF_RANGE) pa_nil)))) pss_nil)
      (pss_cons (ps_fld (pv 0) (pv 2) rfl)
      (pss_one (ps_ret (pe_lst (pa_cons (C8.pe_mt0 w_wash_what_is_over hr (by decide) (pv 0)) pa_nil))))))), ?body⟩
  case len =>
    rintro vs H Q E ⟨_, _, _, _, rfl, _⟩
    rfl
  case body =>
    obtain ⟨f, q, n, t, rfl, I, kk⟩ := h
    have A := I.A
    unfold tickQ at kk
    refine s_asg (v := nV t) (e_arg (i := 0) I e_var e_c rfl) fun H1 e1 => ?_
    have A1 := A.mono e1
    refine s_when (b := !(decide (q.now ≤ t) && decide (t ≤ 1000000))) (t_not (t_is (t_test (e_chain (i := q.now) (j := t) (l := 1000000) (e_now T A1 e_var) e_var e_c)) ?_)) (fun c H2 e2 => ?_) fun c H2 e2 => ?_
    · congr 1
      · exact decide_eq_decide.mpr Int.ofNat_le
      · exact decide_eq_decide.mpr (by omega)
    · have c : t < q.now ∨ 1000000 < t := by
        simp only [Bool.not_eq_true', Bool.and_eq_false_iff, decide_eq_false_iff_not] at c
        omega
      rw [if_pos c] at kk
      exact s_say e_c rfl (kk.rd A (e1.trans e2))
    · have c : ¬ (t < q.now ∨ 1000000 < t) := by
        simp only [Bool.not_eq_false', Bool.and_eq_true, decide_eq_true_eq] at c
        omega
      rw [if_neg c] at kk
      have A2 := A1.mono e2
      refine s_fld (v := nV t) e_var e_var A2.h T.c_House T.n_House_now (by show 6 < 1000; decide) fun H3 b3 h3 => ?_
      have A3 : HousAt H3 f { q with price := q.price, till := q.till, now := t } := A2.house b3 (by rw [h3]; exact congrArg (fun fs => some (HO.ins cHouse f.dx fs)) houF_putN)
      have k3 := (Kp.of (f := f) (e1.trans e2)).trans (Kp.ins A2.h b3)
      show (tMeth cHouse "wash_what_is_over" spWash [] C8.E0 (tVar 0) tNil) _ _ _
      refine d_meth e_var A3.h (houF_m (by decide +kernel)) a_nil ?_
      rintro _ H4 e4 rfl
      refine ⟨f, _, rfl, A3.mono e4, fun m hm i hi => ?_, fun H5 ls k5 A5 => fin_one (kk.at_ (f1 := { f with ls := ls }) rfl ((k3.trans (Kp.of e4)).trans k5) A5)⟩
      obtain ⟨y, hy, _⟩ := I.ok.lod m hm i hi
      exact (List.getElem?_eq_some_iff.mp hy).1
def brokenQ (q : Kyk.Laundry) (k o : Nat) : Kyk.Laundry × Kyk.Ans := if q.machines.length ≤ k then (q, say (-2)) else if 1 < o then (q, say (-22)) else if (Kyk.machine q k).broken == (o == 1) then (q, say (-17)) else
  ({ q with items := Kyk.placed q.items (Kyk.machine q k).load 0, machines := q.machines.set k { Kyk.emptied (Kyk.machine q k) with broken := o == 1 } }, say ((Kyk.machine q k).load.length : Nat))
def spBroken : Sp := fun vs H Q _ => ∃ (f : Hm) (q : Kyk.Laundry) (n : Addr) (k o : Nat), vs = [.ref f.p, .ref n] ∧ Inp H f q n [nV k, nV o] ∧ Done f H Q (brokenQ q k o).1 (toL (brokenQ q k o).2)
theorem ok_broken (T : Txt K mg) (w_take_out : C8.Met P w K mg base 1 cHouse "take_out" spTakeOut []) : C8.Cal P w K mg base 2 "broken" spBroken [] ∧ C8.CalAt P w K mg base 2 346 spBroken := by
  have nd := (C8.fnScope_by sc_broken).nd
  refine mkCal T.d_broken T.m_broken (fun _ _ _ _ _ _ us hl => match us, hl with | [_, _], _ => rfl) sc_broken ?len fun cdv A outer s H vs Q E hr h => ⟨_, (pss_cons (ps_asg (pv 1) (pg_unl rfl (pgs_cons (pg_name (i := 2) nd rfl (Or.inl rfl)) (pgs_cons (pg_name (i := 3) nd rfl (Or.inl rfl)) pgs_nil))))
      (pss_cons (ps_if (pt_cmpR op_ge (pv 2) (pe_callB call_len_seq (by rfl) T.b_len (by decide +kernel) (pa_cons (pe_fld (pv 0) rfl) pa_nil)) (nomark _)) (pss_one (ps_ret (pe_lst (pa_cons (C8.pe_gc rfl T.g_NOT_THERE) pa_nil)))) pss_nil)
      (pss_cons (ps_if (pt_cmpR op_gt (pv 3) pe_int (nomark _)) (pss_one (ps_ret (pe_lst (pa_cons (C8.pe_gc rfl T.g_OUT_OF_RANGE) pa_nil)))) pss_nil)
      (pss_cons (ps_set (i := 4) nd rfl (Or.inl rfl) (pe_ix ix_list (pe_fld (pv 0) rfl) (pv 2) (fun _ _ => rfl)))
      (pss_cons (ps_if (pt_cmpR op_eq (pe_fld (pv 4) rfl) (pv 3) (nomark _)) (pss_one (ps_ret (pe_lst (pa_cons (C8.pe_gc rfl T.g_ALREADY) pa_nil)))) pss_nil)
      (pss_cons (ps_fld (pv 4) (pv 3) rfl)
      (pss_one (ps_ret (pe_lst (pa_cons (C8.pe_mt w_take_out hr (by decide) (pv 0) (pa_cons (pv 4) (pa_cons (C8.pe_gc rfl T.g_UNWASHED) pa_nil))) pa_nil)))))))))), ?body⟩
  case len =>
    rintro vs H Q E ⟨_, _, _, _, _, rfl, _⟩
    rfl
  case body =>
    obtain ⟨f, q, n, k, o, rfl, I, kk⟩ := h
    have A := I.A
    unfold brokenQ at kk
    refine s_unl2 e_var I.nn fun H1 e1 => ?_
    have A1 := A.mono e1
    refine s_when (t_ge e_var (e_nm T A1 e_var)) (fun c H2 e2 => ?_) fun c H2 e2 => ?_
    · rw [if_pos (by simpa using c)] at kk
      exact s_say e_c rfl (kk.rd A (e1.trans e2))
    · have c : ¬ q.machines.length ≤ k := by simpa using c
      rw [if_neg c] at kk
      have e12 := e1.trans e2
      refine s_when (b := decide (1 < o)) (t_gt (n := 1) e_var e_c) (fun c1 H3 e3 => ?_) fun c1 H3 e3 => ?_
      · rw [if_pos (by simpa using c1)] at kk
        exact s_say e_c rfl (kk.rd A (e12.trans e3))
      · have c1 : ¬ 1 < o := by simpa using c1
        rw [if_neg c1] at kk
        have A3 := A.mono (e12.trans e3)
        obtain ⟨m, a, l, hm, ha, hl, M, em⟩ := mac_of A3 c
        rw [em] at kk
        refine s_asg (v := .ref a) (e_machine T A3 e_var e_var ha) fun H4 e4 => ?_
        have eb : (rN m.broken == o) = (m.broken == (o == 1)) := by
          have : o = 0 ∨ o = 1 := by omega
          rcases this with rfl | rfl <;> cases m.broken <;> rfl
        refine s_when (b := m.broken == (o == 1)) (t_is (t_eqn (e_mfld T (M.mono e4) e_var T.n_Machine_broken fun _ => macF_broken) e_var) eb) (fun c2 H5 e5 => ?_) fun c2 H5 e5 => ?_
        · rw [if_pos c2] at kk
          exact s_say e_c rfl (kk.rd A (e12.trans (e3.trans (e4.trans e5))))
        · rw [if_neg (by rw [c2]; exact Bool.false_ne_true)] at kk
          have e15 := e12.trans (e3.trans (e4.trans e5))
          have A5 := A.mono e15
          obtain ⟨dx, pr, h0, h1, h2⟩ := M.mono (e4.trans e5)
          have eo : nV o = nV (rN (o == 1)) := by
            have : o = 0 ∨ o = 1 := by omega
            rcases this with rfl | rfl <;> rfl
          refine s_fld (v := nV (rN (o == 1))) (by rw [← eo]; exact e_var) e_var h0 T.c_Machine T.n_Machine_broken (by show 5 < 1000; decide) fun H6 b6 h6 => ?_
          have no : l ≠ f.o := fun z => A.lo (by rw [← z]; exact List.mem_of_getElem? hl)
          have nt : l ≠ f.t := fun z => A.lt (by rw [← z]; exact List.mem_of_getElem? hl)
          have A6 := A5.machine (y := { m with broken := o == 1 }) (l' := l) (pr := pr) ha hl hm b6 (by rw [h6]; exact congrArg (fun fs => some (HO.ins cMachine dx fs)) macF_putB) (b6.k _ _ (ne_lst h1 h0) h1 nt_lst) (fun z => by
            obtain ⟨d, e1, e2⟩ := h2 z
            exact ⟨d, e1, b6.k _ _ (ne_tup e2 h0) e2 nt_tup⟩) no nt
          rw [set_same hl] at A6
          have k6 := (Kp.of (f := f) e15).trans (Kp.ins h0 b6)
          show (tMeth cHouse "take_out" spTakeOut [] C8.E0 (tVar 0) (tCons (tVar 4) (tCons (tC (.int 0)) tNil))) _ _ _
          refine d_meth e_var A6.h (houF_m (by decide +kernel)) (a_cons e_var (a_cons e_c a_nil)) ?_
          rintro _ H7 e7 ⟨_, rfl, _, rfl, rfl⟩
          have hk := (List.getElem?_eq_some_iff.mp hm).1
          refine ⟨f, _, k, a, 0, { m with broken := o == 1 }, rfl, A6.mono e7, ha, List.getElem?_set_self hk, fun i hi => ?_, fun H8 l' k8 A8 => fin_one (kk.at_ (f1 := { f with ls := f.ls.set k l' }) rfl ((k6.trans (Kp.of e7)).trans k8) ?_)⟩
          · obtain ⟨y, hy, _⟩ := I.ok.lod m (List.mem_of_getElem? hm) i hi
            exact (List.getElem?_eq_some_iff.mp hy).1
          · unfold takeQ at A8
            rw [List.set_set] at A8
            exact A8
end
end Wash
namespace Wash
open PySem PySem.Spec PyProof.Rows L2
open Kyk (say)
theorem filt_fm (j : Nat) : ∀ l : List (Nat × Nat), (l.filterMap fun x => if x.2 = j then some x.1 else none) = (l.filter fun x => x.2 == j).map (·.1)
  | [] => rfl
  | x :: l => by
    rw [List.filterMap_cons, List.filter_cons]
    by_cases c : x.2 = j
    · rw [if_pos c, if_pos (beq_iff_eq.mpr c), List.map_cons, filt_fm j l]
    · rw [if_neg c, if_neg (by rw [beq_iff_eq]; exact c), filt_fm j l]
theorem zip_map_l {α β γ : Type} (g : α → β) : ∀ (l : List α) (b : List γ), (l.map g).zip b = (l.zip b).map fun x => (g x.1, x.2)
  | [], _ => rfl
  | _ :: _, [] => rfl
  | a :: l, c :: b => by
    rw [List.map_cons, List.zip_cons_cons, List.zip_cons_cons, List.map_cons, zip_map_l g l b]
theorem loadOf_eq {q : Kyk.Laundry} {k j c : Nat} {b : List Nat} (h : Kyk.shares q k = some (c, b)) : Kyk.loadOf q k j = (((Kyk.chosen q k).zip b).filter fun x => x.2 == j).map (·.1) := by
  unfold Kyk.loadOf
  rw [h]
  exact filt_fm j _
theorem inLoad_eq {q : Kyk.Laundry} {k j c : Nat} {b : List Nat} (h : Kyk.shares q k = some (c, b)) : Kyk2.inLoad ((Kyk.chosen q k).map (Kyk.piece q)) b j = (Kyk.loadOf q k j).map (Kyk.piece q) := by
  rw [loadOf_eq h]
  unfold Kyk2.inLoad
  rw [zip_map_l, List.filter_map, List.map_map, List.map_map]
  rfl
theorem loadOf_mem {q : Kyk.Laundry} {k j i : Nat} (h : i ∈ Kyk.loadOf q k j) : i ∈ Kyk.chosen q k := by
  unfold Kyk.loadOf at h
  cases hs : Kyk.shares q k with
  | none =>
    rw [hs] at h
    exact nomatch h
  | some x =>
    rw [hs] at h
    dsimp only at h
    rw [filt_fm] at h
    obtain ⟨y, hy, rfl⟩ := List.mem_map.mp h
    exact (List.of_mem_zip (a := y.1) (b := y.2) (List.mem_filter.mp hy).1).1
theorem loadOf_prog {q : Kyk.Laundry} {k j c : Nat} {b : List Nat} (hs : Kyk.shares q k = some (c, b)) (g : Good (Kyk.machine q k).bears ((Kyk.chosen q k).map (Kyk.piece q)) b) (hne : Kyk.loadOf q k j ≠ []) : ∃ p, Kyk1.program ((Kyk.loadOf q k j).map fun i => (Kyk.item q i).x) = some p ∧ p.heat ∈ Kyk1.heats := by
  have h := g j (by rw [inLoad_eq hs]; simpa using hne)
  rw [inLoad_eq hs] at h
  have t := (Bool.and_eq_true_iff.mp h).1
  rw [List.map_map] at t
  have s := (Bool.and_eq_true_iff.mp t).2
  obtain ⟨p, hp⟩ := Option.isSome_iff_exists.mp s
  refine ⟨p, hp, ?_⟩
  unfold Kyk1.program at hp
  obtain ⟨h, hf, rfl⟩ := Option.map_eq_some_iff.mp hp
  exact List.mem_of_find?_eq_some hf
def runQ (q : Kyk.Laundry) (k j : Nat) : Kyk.Laundry × Kyk.Ans := if refusalR q k < 0 then (q, say (refusalR q k)) else match Kyk.loadOf q k j, Kyk1.program ((Kyk.loadOf q k j).map fun i => (Kyk.item q i).x) with
  | [], _ => (q, say (-22))
  | _, none => (q, say (-22))
  | i :: l, some p => (fillQ q k (Kyk.machine q k) (i :: l) p (q.now + minutesP p), ⟨(minutesP p : Nat), Kyk1.programNumbers p⟩)
theorem refusal_ok {q : Kyk.Laundry} {k : Nat} (h : ¬ refusalR q k < 0) : ¬ q.machines.length ≤ k ∧ (Kyk.machine q k).broken = false ∧ Kyk.runs (Kyk.machine q k) = false ∧ (Kyk.chosen q k).isEmpty = false := by
  unfold refusalR at h
  by_cases c1 : q.machines.length ≤ k
  · rw [if_pos c1] at h
    exact absurd (by decide) h
  · rw [if_neg c1] at h
    refine ⟨c1, ?_⟩
    cases c2 : (Kyk.machine q k).broken with
    | true =>
      rw [c2, if_pos rfl] at h
      exact absurd (by decide) h
    | false =>
      rw [c2, if_neg Bool.false_ne_true] at h
      refine ⟨rfl, ?_⟩
      cases c3 : Kyk.runs (Kyk.machine q k) with
      | true =>
        rw [c3, if_pos rfl] at h
        exact absurd (by decide) h
      | false =>
        rw [c3, if_neg Bool.false_ne_true] at h
        refine ⟨rfl, ?_⟩
        cases c4 : (Kyk.chosen q k).isEmpty with
        | true =>
          rw [c4, if_pos rfl] at h
          exact absurd (by decide) h
        | false => rfl
section
variable {P : Program} {w : World} {K : PySem.W.Frag} {mg : Str → Option Value} {base : Heap}
def spRun : Sp := fun vs H Q _ => ∃ (f : Hm) (q : Kyk.Laundry) (n : Addr) (k j : Nat), vs = [.ref f.p, .ref n] ∧ Inp H f q n [nV k, nV j] ∧ Done f H Q (runQ q k j).1 (toL (runQ q k j).2)
theorem ok_run (T : Txt K mg) (w_waiting_for : C8.Met P w K mg base 7 cHouse "waiting_for" spWaitFor []) (w_plan_of : C8.Met P w K mg base 16 cHouse "plan_of" spPlanOf []) (w_fill : C8.Met P w K mg base 1 cHouse "fill" spFillM []) (c_run_refusal : C8.Cal P w K mg base 8 "run_refusal" spRunRef []) (c_mildest_program : C8.Cal P w K mg base 1 "mildest_program" spMild []) (c_minutes_of : C8.Cal P w K mg base 1 "minutes_of" spMinutes []) :
    C8.Cal P w K mg base 17 "run" spRun [] ∧ C8.CalAt P w K mg base 17 332 spRun := by
  have nd := (C8.fnScope_by sc_run).nd
  refine mkCal T.d_run T.m_run (fun _ _ _ _ _ _ us hl => match us, hl with | [_, _], _ => rfl) sc_run ?len fun cdv A outer s H vs Q E hr h => ⟨_, (pss_cons (ps_asg (pv 1) (pg_unl rfl (pgs_cons (pg_name (i := 2) nd rfl (Or.inl rfl)) (pgs_cons (pg_name (i := 3) nd rfl (Or.inr rfl)) pgs_nil))))
      (pss_cons (ps_set (i := 4) nd rfl (Or.inl rfl) (C8.pe_c c_run_refusal hr (by decide) rfl (pa_cons (pv 0) (pa_cons (pv 2) pa_nil))))
      (pss_cons (ps_if (pt_cmpR op_lt (pv 4) pe_int (nomark _)) (pss_one (ps_ret (pe_lst (pa_cons (pv 4) pa_nil)))) pss_nil)
      (pss_cons (ps_set (i := 5) nd rfl (Or.inl rfl) (pe_ix ix_list (pe_fld (pv 0) rfl) (pv 2) (fun _ _ => rfl)))
      (pss_cons (ps_set (i := 6) nd rfl (Or.inl rfl) (C8.pe_mt w_waiting_for hr (by decide) (pv 0) (pa_cons (pv 5) pa_nil)))
      (pss_cons (ps_set (i := 7) nd rfl (Or.inl rfl) (C8.pe_mt w_plan_of hr (by decide) (pv 0) (pa_cons (pv 6) (pa_cons (pv 5) pa_nil))))
      (pss_cons (ps_setLc (i := 8) (own := [("i", 11), ("load", 12)]) (g := gTup K 2 (gCons (gName 11) (gCons (gName 12) gNil))) (te := (tVar 11)) (tt := (tTest (tOp rEq (tVar 12) (tVar 3)))) rfl nd rfl rfl (sw_true rfl rfl rfl (by decide +kernel)) (pi_zip (by rfl) T.b_zip (pa_cons (pv 6) (pa_cons (pv 7) pa_nil))) (blkOk_by (own := [("i", 11), ("load", 12)]) (N := N_run) (sc := C8.fnScope s_run) (by decide +kernel)) (fun _ _ _ _ _ => (pg_tup (by rfl) (pgs_cons (pg_name (i := 11) nd rfl (Or.inl rfl)) (pgs_cons (pg_name (i := 12) nd rfl (Or.inl rfl)) pgs_nil)))) (fun _ _ _ _ _ => (pts_one (pt_cmpR op_eq (pv 12) (pv 3) (nomark _)))) (fun _ _ _ _ _ => (pv 11)))
      (pss_cons (ps_if (pt_cmpR op_eq (pe_callB call_len_seq (by rfl) T.b_len (by decide +kernel) (pa_cons (pv 8) pa_nil)) pe_int (nomark _)) (pss_one (ps_ret (pe_lst (pa_cons (C8.pe_gc rfl T.g_OUT_OF_RANGE) pa_nil)))) pss_nil)
      (pss_cons (ps_set (i := 9) nd rfl (Or.inl rfl) (C8.pe_c c_mildest_program hr (by decide) rfl (pa_cons (pe_lc (own := [("i", 11)]) (te := (tOp (rIxL K) (tFld K (tVar 0) "things") (tVar 11))) (tt := tYes) rfl nd (pi_list (pv 8)) (blkOk_by (own := [("i", 11)]) (N := N_run) (sc := C8.fnScope s_run) (by decide +kernel)) (fun _ _ _ _ _ => (pg_name (i := 11) nd rfl (Or.inl rfl))) (fun _ _ _ _ _ => pts_nil) (fun _ _ _ _ _ => (pe_ix ix_list (pe_fld (pv 0) rfl) (pv 11) (fun _ _ => rfl)))) pa_nil)))
      (pss_cons (ps_set (i := 10) nd rfl (Or.inl rfl) (C8.pe_c c_minutes_of hr (by decide) rfl (pa_cons (pv 9) pa_nil)))
      (pss_cons (ps_expr (C8.pe_mt w_fill hr (by decide) (pv 0) (pa_cons (pv 5) (pa_cons (pv 8) (pa_cons (pv 9) (pa_cons (pe_op op_add (pe_fld (pv 0) rfl) (pv 10)) pa_nil))))))
      (pss_one (ps_ret (pe_op op_cat (pe_lst (pa_cons (pv 10) pa_nil)) (pe_callTy call_list_of (by rfl) T.b_list (by decide +kernel) (pa_cons (pv 9) pa_nil)))))))))))))))), ?body⟩
  case len =>
    rintro vs H Q E ⟨_, _, _, _, _, rfl, _⟩
    rfl
  case body =>
    obtain ⟨f, q, n, k, j, rfl, I, kk⟩ := h
    have A := I.A
    unfold runQ at kk
    refine s_unl2 e_var I.nn fun H1 e1 => ?_
    have A1 := A.mono e1
    refine s_asg (v := .int (refusalR q k)) (e_call (a_cons e_var (a_cons e_var a_nil)) ?_) fun H2 e2 => ?_
    · rintro _ H3 e3 ⟨_, rfl, _, rfl, rfl⟩ Q3 q3
      exact ⟨f, q, k, rfl, A1.mono e3, I.ok, (e1.trans e3).t I.tb, q3⟩
    · refine s_when (b := decide (refusalR q k < 0)) (t_test (e_op e_var e_c rv_i0)) (fun c H3 e3 => ?_) fun c H3 e3 => ?_
      · rw [if_pos (by simpa using c)] at kk
        exact s_say e_var rfl (kk.rd A (e1.trans (e2.trans e3)))
      · have c : ¬ refusalR q k < 0 := by simpa using c
        rw [if_neg c] at kk
        obtain ⟨c1, c2, c3, c4⟩ := refusal_ok c
        have e13 := e1.trans (e2.trans e3)
        have A3 := A.mono e13
        obtain ⟨m, a, l, hm, ha, hl, M, em⟩ := mac_of A3 c1
        refine s_asg (v := .ref a) (e_machine T A3 e_var e_var ha) fun H4 e4 => ?_
        have e14 := e13.trans e4
        refine s_asgN (o := .lst ((Kyk.chosen q k).map nV)) (n_wait (A.mono e14) I.ok (e14.t I.tb) e_var e_var ha) fun wa H5 nw e5 hw => ?_
        have hne : Kyk.chosen q k ≠ [] := fun z => by
          rw [z] at c4
          cases c4
        obtain ⟨cc, b, hs, hb, hlen, hgood, _⟩ := shares_some I.ok hne
        have e15 := e14.trans e5
        refine s_asgX (x_plan (A.mono e15) I.ok e_var e_var e_var ha hw hne hb) fun way H6 e6 hwy => ?_
        have e16 := e15.trans e6
        have hw6 := e6.k _ _ hw nt_lst
        have C8' := (chosen_of q k).len
        refine s_asgN (o := .lst ((Kyk.loadOf q k j).map nV)) ?_ fun ch H7 nch e7 hch => ?_
        · rw [loadOf_eq hs, List.map_map]
          refine n_lc ((Kyk.chosen q k).zip b) (fun x => x.2 == j) _ (w_zip (v_cons e_var (v_cons e_var v_nil)) (SqL.of hw6) (SqL.of hwy) (by rw [List.length_map, List.length_map, hlen])) (by rw [List.length_map, List.length_zip]; omega) (by rw [List.length_map]; omega) fun i z H8 e8 hz => ?_
          obtain ⟨z1, z2⟩ := List.getElem?_zip_eq_some.mp hz
          refine ⟨rfl, t_eqn (e_var (v := nV z.2) (congrArg some (nat_at z2))) e_var, fun _ => e_var (v := nV z.1) (congrArg some (nat_at z1))⟩
        · refine s_when (t_is (t_nil e_var hch) (map_isEmpty _ _)) (fun c5 H8 e8 => ?_) fun c5 H8 e8 => ?_
          · have z : Kyk.loadOf q k j = [] := List.isEmpty_iff.mp c5
            rw [z] at kk
            exact s_say e_c rfl (kk.rd A (e16.trans (e7.trans e8)))
          · have hne2 : Kyk.loadOf q k j ≠ [] := fun z => by
              rw [z] at c5
              cases c5
            obtain ⟨p, hp, hheat⟩ := loadOf_prog hs hgood hne2
            have kk : Done f H Q (fillQ q k m (Kyk.loadOf q k j) p (q.now + minutesP p)) (toL ⟨(minutesP p : Nat), Kyk1.programNumbers p⟩) := by
              rw [hp, em] at kk
              cases hL : Kyk.loadOf q k j with
              | nil => exact absurd hL hne2
              | cons i r =>
                rw [hL] at kk
                exact kk
            have e18 := e16.trans (e7.trans e8)
            have A8 := A.mono e18
            have hch8 := e8.k _ _ hch nt_lst
            have lmem : ∀ i ∈ Kyk.loadOf q k j, ∃ y d, q.items[i]? = some y ∧ Kyk.item q i = y ∧ f.ts[i]? = some d ∧ i < q.items.length := fun i hi => by
              have h1 := ((chosen_of q k).mem i (loadOf_mem hi)).1
              obtain ⟨y, hy⟩ := lt_get h1
              obtain ⟨d, hd⟩ := addr_at A.tt.1 hy
              exact ⟨y, d, hy, item_get hy, hd, h1⟩
            have ll : (Kyk.loadOf q k j).length ≤ 8 := by
              rw [loadOf_eq hs, List.length_map]
              refine Nat.le_trans (List.length_filter_le _ _) ?_
              rw [List.length_zip]
              omega
            have th : Things H8 ((Kyk.loadOf q k j).map fun i => f.ts.getD i 0) ((Kyk.loadOf q k j).map (Kyk.item q)) := ⟨by rw [List.length_map, List.length_map], fun j2 d y h1 h2 => by
              rw [List.getElem?_map] at h1 h2
              obtain ⟨i, hi, rfl⟩ := Option.map_eq_some_iff.mp h1
              rw [hi] at h2
              cases h2
              obtain ⟨y, d, hy, ey, hd, _⟩ := lmem i (List.mem_of_getElem? hi)
              rw [ey, List.getD_eq_getElem?_getD, hd]
              exact A8.tt.2 i d y hd hy⟩
            refine s_asgN (o := .tup (progV p)) (n_call (a_consN (o := .lst (((Kyk.loadOf q k j).map fun i => f.ts.getD i 0).map V.ref)) nt_lst ?_ a_nil) ?_) fun g H9 ng e9 hg => ?_
            · rw [List.map_map]
              refine n_map (Kyk.loadOf q k j) _ (w_list e_var (SqL.of hch8)) (List.length_map ..) (by rw [List.length_map]; omega) fun i j2 H9 e9 hj => ⟨rfl, ?_⟩
              obtain ⟨y, d, hy, ey, hd, _⟩ := lmem j2 (List.mem_of_getElem? hj)
              refine e_is (e_thing T (A8.mono e9) e_var (e_var (v := nV j2) (congrArg some (nat_at hj))) hd) ?_
              show V.ref d = V.ref (f.ts.getD j2 0)
              rw [List.getD_eq_getElem?_getD, hd]
              rfl
            · rintro _ H9 e9 ⟨d, _, rfl, nd2, hd, rfl⟩ Q9 q9
              refine ⟨d, (Kyk.loadOf q k j).map fun i => f.ts.getD i 0, (Kyk.loadOf q k j).map (Kyk.item q), rfl, hd, th.mono e9, by simpa using hne2, by rw [List.length_map]; omega, fun y hy => ?_, ?_⟩
              · obtain ⟨i, hi, rfl⟩ := List.mem_map.mp hy
                obtain ⟨y, d, hy, ey, hd, _⟩ := lmem i hi
                rw [ey]
                exact I.ok.lab y (List.mem_of_getElem? hy)
              · rw [List.map_map, show ((fun y : Kyk.Item => y.x) ∘ Kyk.item q) = fun i => (Kyk.item q i).x from rfl, hp]
                exact q9
            · refine s_asg (v := nV (minutesP p)) (e_call (a_cons e_var a_nil) ?_) fun H10 e10 => ?_
              · rintro _ H10 e10 ⟨_, rfl, rfl⟩ Q10 q10
                exact ⟨g, p, rfl, e10.k _ _ hg nt_tup, hheat, q10⟩
              · have e1A := e18.trans (e9.trans e10)
                have A10 := A.mono e1A
                have hg10 := e10.k _ _ hg nt_tup
                have chF : ch ∉ Foot f := fun z => by
                  obtain ⟨xs, e⟩ := foot_lst (A.mono e16) z
                  exact nch _ e nt_lst
                show (tMeth cHouse "fill" spFillM [] C8.E0 (tVar 0) (tCons (tVar 5) (tCons (tVar 8) (tCons (tVar 9) (tCons (tOp (rI0 fun i j => .int (i + j)) (tFld K (tVar 0) "now") (tVar 10)) tNil))))) _ _ _
                refine d_meth e_var A10.h (houF_m (by decide +kernel)) (a_cons e_var (a_cons e_var (a_cons e_var (a_cons (e_op (e_now T A10 e_var) e_var rv_i0) a_nil)))) ?_
                rintro _ H11 e11 ⟨_, rfl, _, rfl, _, rfl, _, rfl, rfl⟩
                have x16 := e7.trans (e8.trans (e9.trans (e10.trans e11)))
                refine ⟨f, q, k, a, ch, g, Kyk.loadOf q k j, p, q.now + minutesP p, m, ?_, A10.mono e11, ha, hm, (e8.trans (e9.trans (e10.trans e11))).k _ _ hch nt_lst, chF, e11.k _ _ hg10 nt_tup, fun i hi => (lmem i hi).choose_spec.choose_spec.2.2.2, fun H12 keep k12 A12 => ?_⟩
                · have ea : ((q.now : Nat) : Int) + ((minutesP p : Nat) : Int) = ((q.now + minutesP p : Nat) : Int) := (Int.natCast_add _ _).symm
                  rw [ea]
                · have kAll : Kp f { f with ls := f.ls.set k ch } H H12 := by
                    have k0 := (Kp.of (f := f) (e1A.trans e11)).trans k12
                    refine ⟨fun b xs nb e => ⟨(k0.l b xs nb e).1, fun z => ?_⟩, k0.u, k0.z, k0.t⟩
                    have bch : b ≠ ch := nch.ne (e16.k _ _ e nt_lst) nt_lst
                    simp only [Foot, List.mem_cons] at z
                    simp only [Foot, List.mem_cons, not_or] at nb
                    rcases z with z | z | z | z
                    · exact nb.1 z
                    · exact nb.2.1 z
                    · exact nb.2.2.1 z
                    · rcases List.mem_or_eq_of_mem_set z with z | z
                      · exact nb.2.2.2 z
                      · exact bch z
                  have k2 := kk.at_ (f1 := { f with ls := f.ls.set k ch }) rfl kAll A12
                  rw [toL_nat] at k2
                  exact s_retN (n_catNN (n_lst (v_cons e_var v_nil) (by show 1 ≤ 100000; decide)) (n_listT e_var (k12.u _ _ (e11.k _ _ hg10 nt_tup))) (by show 1 + 4 ≤ 100000; decide)) k2
end
end Wash
/-! The calls about orders. -/
namespace Wash
open PySem PySem.Spec PyProof.Rows L2
open Kyk (say)
section
variable {H H' : Hp} {f : Hm} {q : Kyk.Laundry}
theorem Kp.list {c : Addr} {xs : List V} (hc : H c = some (.lst xs)) (n : c ∈ Foot f) (b : Xb c H H') : Kp f f H H' :=
  ⟨fun a ys na e => ⟨b.k _ _ (fun z => na (by rw [z]; exact n)) e nt_lst, na⟩, fun a ys e => b.k _ _ (ne_of e hc (by intro z; cases z)) e nt_tup, fun a o u e => b.k _ _ (ne_of e hc (by intro z; cases z)) e nt_frz, b.t⟩
theorem Kp.foot {f1 f2 f3 : Hm} {H H' : Hp} (k : Kp f1 f2 H H') (e : Foot f3 = Foot f2) : Kp f1 f3 H H' := ⟨fun b xs n h => ⟨(k.l b xs n h).1, by rw [e]; exact (k.l b xs n h).2⟩, k.u, k.z, k.t⟩
theorem HousAt.addO (A : HousAt H f q) {a : Addr} {y : Kyk.Order} (b : Xb f.o H H') (h : H' f.o = some (.lst ((f.os ++ [a]).map V.ref))) (ha : OrdAt H a y) (na : a ∉ f.os) : HousAt H' { f with os := f.os ++ [a] } { q with orders := q.orders ++ [y] } := by
  have ni : ∀ {a C dx : Addr} {fs : List (Str × V)}, H a = some (.ins C dx fs) → a ≠ f.o := fun e => Ne.symm (ne_lst A.o e)
  refine { h := b.k _ _ (ni A.h) A.h nt_ins, m := b.k _ _ A.mo A.m nt_lst, o := h, t := b.k _ _ (Ne.symm A.ot) A.t nt_lst, ml := A.ml, ll := A.ll, mm := fun k c l y h1 h2 h3 => ?_, ol := by rw [List.length_append, List.length_append, A.ol] <;> rfl, oo := fun k c y' h1 h2 => ?_, tt := ⟨A.tt.1, fun k a y h1 h2 => let ⟨dx, l, e, dl, e2⟩ := A.tt.2 k a y h1 h2; ⟨dx, l, b.k _ _ (ni e) e nt_ins, dl, b.k _ _ (ni e2) e2 nt_ins⟩⟩, ndm := A.ndm, ndo := ?_, ndt := A.ndt, ot := A.ot, mo := A.mo, mt := A.mt, lo := A.lo, lt := A.lt }
  · obtain ⟨dx, pr, e1, e2, e3⟩ := A.mm k c l y h1 h2 h3
    refine ⟨dx, pr, b.k _ _ (ni e1) e1 nt_ins, b.k _ _ (fun z => A.lo (by rw [← z]; exact List.mem_of_getElem? h2)) e2 nt_lst, fun z => ?_⟩
    obtain ⟨d, e4, e5⟩ := e3 z
    exact ⟨d, e4, b.k _ _ (ne_of e5 A.o (by intro z; cases z)) e5 nt_tup⟩
  · have keep : ∀ {c : Addr} {y : Kyk.Order}, OrdAt H c y → OrdAt H' c y := fun ⟨dx, e⟩ => ⟨dx, b.k _ _ (ni e) e nt_ins⟩
    by_cases hk : k < f.os.length
    · rw [List.getElem?_append_left hk] at h1
      have h2' : (q.orders ++ [y])[k]? = some y' := h2
      rw [List.getElem?_append_left (by rw [← A.ol]; exact hk)] at h2'
      exact keep (A.oo k c y' h1 h2')
    · have h2' : (q.orders ++ [y])[k]? = some y' := h2
      rw [List.getElem?_append_right (by omega)] at h1
      rw [List.getElem?_append_right (by rw [← A.ol]; omega), ← A.ol] at h2'
      have hk0 : k - f.os.length = 0 := by
        have := (List.getElem?_eq_some_iff.mp h1).1
        simp at this
        omega
      rw [hk0] at h1 h2'
      cases h1
      cases h2'
      exact keep ha
  · rw [List.nodup_append]
    exact ⟨A.ndo, by simp, fun x hx z hz e => na (by
      have : z = a := by simpa using hz
      rw [← this, ← e]
      exact hx)⟩
theorem HousAt.addT (A : HousAt H f q) {a : Addr} {y : Kyk.Item} (b : Xb f.t H H') (h : H' f.t = some (.lst ((f.ts ++ [a]).map V.ref))) (ha : ThgAt H a y) (na : a ∉ f.ts) : HousAt H' { f with ts := f.ts ++ [a] } { q with items := q.items ++ [y] } := by
  have ni : ∀ {a C dx : Addr} {fs : List (Str × V)}, H a = some (.ins C dx fs) → a ≠ f.t := fun e => Ne.symm (ne_lst A.t e)
  refine { h := b.k _ _ (ni A.h) A.h nt_ins, m := b.k _ _ A.mt A.m nt_lst, o := b.k _ _ A.ot A.o nt_lst, t := h, ml := A.ml, ll := A.ll, mm := fun k c l y h1 h2 h3 => ?_, ol := A.ol, oo := fun k c y h1 h2 => let ⟨dx, e⟩ := A.oo k c y h1 h2; ⟨dx, b.k _ _ (ni e) e nt_ins⟩, tt := ⟨by rw [List.length_append, List.length_append, A.tt.1] <;> rfl, fun k c y' h1 h2 => ?_⟩, ndm := A.ndm, ndo := A.ndo, ndt := ?_, ot := A.ot, mo := A.mo, mt := A.mt, lo := A.lo, lt := A.lt }
  · obtain ⟨dx, pr, e1, e2, e3⟩ := A.mm k c l y h1 h2 h3
    refine ⟨dx, pr, b.k _ _ (ni e1) e1 nt_ins, b.k _ _ (fun z => A.lt (by rw [← z]; exact List.mem_of_getElem? h2)) e2 nt_lst, fun z => ?_⟩
    obtain ⟨d, e4, e5⟩ := e3 z
    exact ⟨d, e4, b.k _ _ (ne_of e5 A.t (by intro z; cases z)) e5 nt_tup⟩
  · have keep : ∀ {c : Addr} {y : Kyk.Item}, ThgAt H c y → ThgAt H' c y := fun ⟨dx, l, e, dl, e2⟩ => ⟨dx, l, b.k _ _ (ni e) e nt_ins, dl, b.k _ _ (ni e2) e2 nt_ins⟩
    by_cases hk : k < f.ts.length
    · rw [List.getElem?_append_left hk] at h1
      have h2' : (q.items ++ [y])[k]? = some y' := h2
      rw [List.getElem?_append_left (by rw [← A.tt.1]; exact hk)] at h2'
      exact keep (A.tt.2 k c y' h1 h2')
    · have h2' : (q.items ++ [y])[k]? = some y' := h2
      rw [List.getElem?_append_right (by omega)] at h1
      rw [List.getElem?_append_right (by rw [← A.tt.1]; omega), ← A.tt.1] at h2'
      have hk0 : k - f.ts.length = 0 := by
        have := (List.getElem?_eq_some_iff.mp h1).1
        simp at this
        omega
      rw [hk0] at h1 h2'
      cases h1
      cases h2'
      exact keep ha
  · rw [List.nodup_append]
    exact ⟨A.ndt, by simp, fun x hx z hz e => na (by
      have : z = a := by simpa using hz
      rw [← this, ← e]
      exact hx)⟩
end
theorem in_nats (s : Nat) : ∀ l : List Nat, inV (nV s) (l.map nV) = l.contains s
  | [] => rfl
  | x :: l => by
    have ih := in_nats s l
    unfold inV at ih ⊢
    rw [List.map_cons, List.any_cons, ih, List.contains_cons]
    congr 1
    show ((x : Int) == (s : Int)) = (s == x)
    rw [Bool.eq_iff_iff, beq_iff_eq, beq_iff_eq]
    omega
section
variable {P : Program} {w : World} {K : PySem.W.Frag} {mg : Str → Option Value} {base : Heap}
def stRef (q : Kyk.Laundry) (o : Nat) (sts : List Nat) : Int := if q.orders.length ≤ o then -2 else if sts.contains (Kyk.order q o).state then 0 else -16
def spStRef : Sp := fun vs H Q _ => ∃ (f : Hm) (q : Kyk.Laundry) (o : Nat) (s : Addr) (sts : List Nat), vs = [.ref f.p, nV o, .ref s] ∧ HousAt H f q ∧ H s = some (.lst (sts.map nV)) ∧ RetV (.int (stRef q o sts)) H Q
theorem flat_nats : ∀ l : List Nat, (l.map nV).all flatV = true
  | [] => rfl
  | _ :: l => by
    rw [List.map_cons, List.all_cons, flat_nats l]
    rfl
theorem ok_stRef (T : Txt K mg) : C8.Cal P w K mg base 1 "state_refusal" spStRef [] := by
  have nd := (C8.fnScope_by sc_state_refusal).nd
  refine mkCal1 T.d_state_refusal T.m_state_refusal (fun _ _ _ _ _ _ us hl => match us, hl with | [_, _, _], _ => rfl) sc_state_refusal ?len fun cdv A outer s H vs Q E hr h => ⟨_, (pss_cons (ps_if (pt_cmpR op_ge (pv 1) (pe_callB call_len_seq (by rfl) T.b_len (by decide +kernel) (pa_cons (pe_fld (pv 0) rfl) pa_nil)) (nomark _)) (pss_one (ps_ret (C8.pe_gc rfl T.g_NOT_THERE))) pss_nil)
      (pss_cons (ps_if (pt_cmpR op_notIn_seq (pe_fld (pe_ix ix_list (pe_fld (pv 0) rfl) (pv 1) (fun _ _ => rfl)) rfl) (pv 2) (by rfl)) (pss_one (ps_ret (C8.pe_gc rfl T.g_WRONG_STATE))) pss_nil)
      (pss_one (ps_ret pe_int)))), ?body⟩
  case len =>
    rintro vs H Q E ⟨_, _, _, _, _, rfl, _⟩
    rfl
  case body =>
    obtain ⟨f, q, o, s, sts, rfl, A, hs, kk⟩ := h
    unfold stRef at kk
    refine s_when (t_ge e_var (e_no T A e_var)) (fun c H1 e1 => ?_) fun c H1 e1 => ?_
    · rw [if_pos (by simpa using c)] at kk
      exact s_ret e_c (kk.go e1)
    · have c : ¬ q.orders.length ≤ o := by simpa using c
      rw [if_neg c] at kk
      obtain ⟨y, hy⟩ := lt_get (l := q.orders) (i := o) (by omega)
      obtain ⟨a, ha⟩ := addr_at A.ol hy
      rw [order_get hy] at kk
      have A1 := A.mono e1
      refine s_when (b := !(sts.contains y.state)) (t_is (t_test (e_op (e_ofld T (A1.oo o a y ha hy) (e_order T A1 e_var e_var ha) T.n_Order_state ordF_state) e_var (rv_inL (neg := true) (SqL.of (e1.k _ _ hs nt_lst)) rfl (flat_nats _)))) ?_) (fun c2 H2 e2 => ?_) fun c2 H2 e2 => ?_
      · rw [if_pos rfl, in_nats]
      · rw [if_neg (by simpa using c2)] at kk
        exact s_ret e_c (kk.go (e1.trans e2))
      · rw [if_pos (by simpa using c2)] at kk
        exact s_ret e_c (kk.go (e1.trans e2))
def drumsB (bears : List Nat) : Bool := decide (1 ≤ bears.length) && decide (bears.length ≤ 4) && bears.all fun b => decide (1000 ≤ b) && decide (b ≤ 20000)
def spDrums : Sp := fun vs H Q _ => ∃ (r : Addr) (bears : List Nat), vs = [.ref r] ∧ H r = some (.lst (bears.map nV)) ∧ bears.length ≤ 1000 ∧ RetV (.bl (drumsB bears)) H Q
theorem ok_drums (T : Txt K mg) : C8.Cal P w K mg base 1 "are_drums" spDrums [] := by
  have nd := (C8.fnScope_by sc_are_drums).nd
  refine mkCal1 T.d_are_drums T.m_are_drums (fun _ _ _ _ _ _ us hl => match us, hl with | [_], _ => rfl) sc_are_drums ?len fun cdv A outer s H vs Q E hr h => ⟨_, (pss_cons (ps_if (pt_not (pt_chain op_le op_le pe_int (pe_callB call_len_seq (by rfl) T.b_len (by decide +kernel) (pa_cons (pv 0) pa_nil)) (C8.pe_gc rfl T.g_MOST_MACHINES))) (pss_one (ps_ret pe_bl)) pss_nil)
      (pss_one (ps_ret (pe_callB (cr_all rfl) (by rfl) T.b_all (by decide +kernel) (pa_cons (pe_lc (own := [("grams", 1)]) (te := (tChain (rI0 fun i j => .bl (decide (i ≤ j))) (rI0 fun i j => .bl (decide (i ≤ j))) (tC (.int (1000))) (tVar 1) (tC (.int (20000))))) (tt := tYes) rfl nd (pi_list (pv 0)) (blkOk_by (own := [("grams", 1)]) (N := N_are_drums) (sc := C8.fnScope s_are_drums) (by decide +kernel)) (fun _ _ _ _ _ => (pg_name (i := 1) nd rfl (Or.inl rfl))) (fun _ _ _ _ _ => pts_nil) (fun _ _ _ _ _ => (pe_chain op_le op_le (C8.pe_gc rfl T.g_LEAST_DRUM) (pv 1) (C8.pe_gc rfl T.g_GREATEST_DRUM)))) pa_nil))))), ?body⟩
  case len =>
    rintro vs H Q E ⟨_, _, rfl, _⟩
    rfl
  case body =>
    obtain ⟨r, bears, rfl, hr0, hb, kk⟩ := h
    unfold drumsB at kk
    refine s_when (b := !(decide (1 ≤ bears.length) && decide (bears.length ≤ 4))) (t_not (t_is (t_test (e_chain (i := 1) (j := bears.length) (l := 4) e_c (e_is (e_len e_var (SqL.of hr0)) (by rw [List.length_map])) e_c)) ?_)) (fun c H2 e2 => ?_) fun c H2 e2 => ?_
    · congr 1
      · exact decide_eq_decide.mpr (by omega)
      · exact decide_eq_decide.mpr (by omega)
    · have c : (decide (1 ≤ bears.length) && decide (bears.length ≤ 4)) = false := by
        rw [Bool.not_eq_true'] at c
        exact c
      rw [c] at kk
      exact s_ret e_c (kk.go e2)
    · have c : (decide (1 ≤ bears.length) && decide (bears.length ≤ 4)) = true := by
        rw [Bool.not_eq_false'] at c
        exact c
      rw [c, Bool.true_and] at kk
      refine s_ret (e_is (e_allN (l := bears.map fun b => decide (1000 ≤ b) && decide (b ≤ 20000)) ?_) ?_) (kk.go e2)
      · rw [List.map_map]
        refine n_map bears _ (w_list e_var (SqL.of (e2.k _ _ hr0 nt_lst))) (List.length_map ..) (by rw [List.length_map]; omega) fun i b H3 e3 hb2 => ⟨rfl, ?_⟩
        refine e_is (e_chain (i := 1000) (j := b) (l := 20000) e_c (e_var (v := nV b) (congrArg some (nat_at hb2))) e_c) ?_
        show V.bl _ = V.bl _
        congr 2
        · exact decide_eq_decide.mpr (by omega)
        · exact decide_eq_decide.mpr (by omega)
      · rw [List.all_map]
        rfl
def startQ (q : Kyk.Laundry) (price : Nat) (bears : List Nat) : Kyk.Laundry × Kyk.Ans := if Kyk.okStart price bears = false then (q, say (-22)) else (freshQ price bears, say 0)
def spStart : Sp := fun vs H Q _ => ∃ (f : Hm) (q : Kyk.Laundry) (n r : Addr) (price : Nat) (bears : List Nat), vs = [.ref f.p, .ref n] ∧ Inp H f q n [nV price, .ref r] ∧ H r = some (.lst (bears.map nV)) ∧ bears.length ≤ 1000 ∧ Done f H Q (startQ q price bears).1 (toL (startQ q price bears).2)
theorem ok_start (T : Txt K mg) (c_are_drums : C8.Cal P w K mg base 1 "are_drums" spDrums []) (w_begin : C8.Met P w K mg base 3 cHouse "begin" spBegin []) : C8.Cal P w K mg base 4 "start" spStart [] ∧ C8.CalAt P w K mg base 4 392 spStart := by
  have nd := (C8.fnScope_by sc_start).nd
  refine mkCal T.d_start T.m_start (fun _ _ _ _ _ _ us hl => match us, hl with | [_, _], _ => rfl) sc_start ?len fun cdv A outer s H vs Q E hr h => ⟨_, (pss_cons (ps_asg (pv 1) (pg_unl rfl (pgs_cons (pg_name (i := 2) nd rfl (Or.inl rfl)) (pgs_cons (pg_name (i := 3) nd rfl (Or.inl rfl)) pgs_nil))))
      (pss_cons (ps_if (PW.pt (pw_or (pt_cmpR op_gt (pv 2) (C8.pe_gc rfl T.g_MOST_PRICE) (nomark _)) (pw_or1 (pt_not (pt_val (C8.pe_c c_are_drums hr (by decide) rfl (pa_cons (pv 3) pa_nil))))))) (pss_one (ps_ret (pe_lst (pa_cons (C8.pe_gc rfl T.g_OUT_OF_RANGE) pa_nil)))) pss_nil)
      (pss_cons (ps_expr (C8.pe_mt w_begin hr (by decide) (pv 0) (pa_cons (pv 2) (pa_cons (pv 3) pa_nil))))
      (pss_one (ps_ret (pe_lst (pa_cons pe_int pa_nil))))))), ?body⟩
  case len =>
    rintro vs H Q E ⟨_, _, _, _, _, _, rfl, _⟩
    rfl
  case body =>
    obtain ⟨f, q, n, r, price, bears, rfl, I, hr0, hb, kk⟩ := h
    have A := I.A
    unfold startQ at kk
    have ek : Kyk.okStart price bears = (decide (price ≤ 1000) && drumsB bears) := by
      unfold Kyk.okStart drumsB
      simp only [Bool.and_assoc]
    refine s_unl2 e_var I.nn fun H1 e1 => ?_
    refine s_when (b := decide (1000 < price) || !(drumsB bears)) (t_or (t_gt (n := 1000) e_var e_c) fun _ => t_not (t_b (e_call (a_cons e_var a_nil) (by
      rintro _ H3 e3 ⟨_, rfl, rfl⟩ Q3 q3
      exact ⟨r, bears, rfl, (e1.trans e3).k _ _ hr0 nt_lst, hb, q3⟩)))) (fun c H2 e2 => ?_) fun c H2 e2 => ?_
    · rw [ek, if_pos (by
        rw [Bool.and_eq_false_iff, decide_eq_false_iff_not]
        rw [Bool.or_eq_true, decide_eq_true_eq, Bool.not_eq_true'] at c
        rcases c with c | c
        · exact .inl (by omega)
        · exact .inr c)] at kk
      exact s_say e_c rfl (kk.rd A (e1.trans e2))
    · rw [ek, if_neg (by
        rw [Bool.and_eq_false_iff, decide_eq_false_iff_not]
        rw [Bool.or_eq_false_iff, decide_eq_false_iff_not, Bool.not_eq_false'] at c
        rintro (z | z)
        · exact z (by omega)
        · rw [c.2] at z
          cases z)] at kk
      have e12 := e1.trans e2
      have A2 := A.mono e12
      show (tMeth cHouse "begin" spBegin [] C8.E0 (tVar 0) (tCons (tVar 2) (tCons (tVar 3) tNil))) _ _ _
      refine d_meth e_var A2.h (houF_m (by decide +kernel)) (a_cons e_var (a_cons e_var a_nil)) ?_
      rintro _ H3 e3 ⟨_, rfl, _, rfl, rfl⟩
      refine ⟨f.p, f.dx, r, _, price, bears, rfl, (A2.mono e3).h, by show 6 ≤ 6; decide, fun m o t => rfl, (e12.trans e3).k _ _ hr0 nt_lst, hb, fun H4 f4 b4 fp n4 A4 => ?_⟩
      have k4 : Kp f f4 H H4 := by
        have k0 := (Kp.of (f := f) (e12.trans e3)).trans (Kp.ins (f := f) (A2.mono e3).h b4)
        exact ⟨fun b xs nb e => ⟨(k0.l b xs nb e).1, fun z => n4 b z _ ((e12.trans e3).k _ _ e nt_lst) nt_lst⟩, k0.u, k0.z, k0.t⟩
      exact s_say (σ := []) e_c rfl (kk.at_ fp k4 A4)
end
end Wash
namespace Wash
open PySem PySem.Spec PyProof.Rows L2
open Kyk (say)
section
variable {P : Program} {w : World} {K : PySem.W.Frag} {mg : Str → Option Value} {base : Heap}
theorem e_stRef {σ : L2.St} {H : Hp} {te to ts : TE} {f : Hm} {q : Kyk.Laundry} {o : Nat} {sts : List Nat} (A : HousAt H f q) (h : Ev te σ H (.ref f.p)) (h2 : Ev to σ H (nV o)) (h3 : EvN ts σ H (.lst (sts.map nV))) : Ev (tCall spStRef [] C8.E0 (tCons te (tCons to (tCons ts tNil)))) σ H (.int (stRef q o sts)) := by
  refine e_call (a_cons h (a_cons h2 (a_consN nt_lst h3 a_nil))) ?_
  rintro _ H1 e1 ⟨_, rfl, _, rfl, s, _, rfl, ns, hs, rfl⟩ Q q1
  exact ⟨f, q, o, s, sts, rfl, A.mono e1, hs, q1⟩
theorem stRef_neg {q : Kyk.Laundry} {o : Nat} {sts : List Nat} : ¬ stRef q o sts < 0 → stRef q o sts = 0 ∧ ∃ y, q.orders[o]? = some y ∧ sts.contains y.state = true := fun h => by
  unfold stRef at h ⊢
  by_cases c : q.orders.length ≤ o
  · rw [if_pos c] at h
    exact absurd (by decide) h
  · rw [if_neg c] at h ⊢
    obtain ⟨y, hy⟩ := lt_get (l := q.orders) (i := o) (by omega)
    rw [order_get hy] at h ⊢
    cases c2 : sts.contains y.state with
    | false =>
      rw [c2, if_neg Bool.false_ne_true] at h
      exact absurd (by decide) h
    | true => exact ⟨if_pos rfl, y, hy, c2⟩
theorem n_things {σ : L2.St} {H : Hp} {te to : TE} {f : Hm} {q : Kyk.Laundry} {o : Nat} (A : HousAt H f q) (ok : Ok q) (h : Ev te σ H (.ref f.p)) (h2 : Ev to σ H (nV o)) : EvN (tMeth cHouse "things_of" spThingsOf [] C8.E0 te (tCons to tNil)) σ H (.lst ((ofOrd f q o).map fun z => .ref z.1)) := by
  refine n_meth h A.h (houF_m (by decide +kernel)) (a_cons h2 a_nil) ?_
  rintro _ H2 e2 ⟨_, rfl, rfl⟩ Q2 q2
  exact ⟨f, q, o, rfl, A.mono e2, ok, q2⟩
theorem d_bm {σ : L2.St} {H : Hp} {te : TE} {ta : TA} {Ty : String} {r : V → List V → Hp → VK → Prop} {x : V} {Q : VK} (h : Ev te σ H x) (ty : ∀ H1, Xt H H1 → tyV K Ty x H1) (k : ∀ H1, Xt H H1 → ta σ H1 fun xs H2 => r x xs H2 Q) : tBM K Ty r te ta σ H Q := h H (Xt.refl H) _ fun H1 e1 => ⟨ty H1 e1, k H1 e1⟩
theorem isEmpty_len {α β : Type} {l : List α} {m : List β} (h : l.length = m.length) : l.isEmpty = m.isEmpty := by
  cases l <;> cases m <;> first | rfl | (simp at h)
def orderQ (q : Kyk.Laundry) (d : Nat) : Kyk.Laundry × Kyk.Ans := if d < q.now ∨ 1000000 < d then (q, say (-22)) else if q.orders.length = 60 then (q, say (-28)) else ({ q with orders := q.orders ++ [⟨d, 0⟩] }, say (q.orders.length : Nat))
def spOrder : Sp := fun vs H Q _ => ∃ (f : Hm) (q : Kyk.Laundry) (n : Addr) (d : Nat), vs = [.ref f.p, .ref n] ∧ Inp H f q n [nV d] ∧ Done f H Q (orderQ q d).1 (toL (orderQ q d).2)
theorem ok_order (T : Txt K mg) (m_Order : C8.Mak P w K mg base 1 "Order" cOrder spOrderI []) : C8.Cal P w K mg base 3 "order" spOrder [] ∧ C8.CalAt P w K mg base 3 399 spOrder := by
  have nd := (C8.fnScope_by sc_order).nd
  refine mkCal T.d_order T.m_order (fun _ _ _ _ _ _ us hl => match us, hl with | [_, _], _ => rfl) sc_order ?len fun cdv A outer s H vs Q E hr h => ⟨_, (pss_cons (ps_set (i := 2) nd rfl (Or.inl rfl) (pe_ix ix_list (pv 1) pe_int (fun _ _ => rfl)))
      (pss_cons (ps_if (pt_not (pt_chain op_le op_le (pe_fld (pv 0) rfl) (pv 2) (C8.pe_gc rfl T.g_LAST_MINUTE))) (pss_one (ps_ret (pe_lst (pa_cons (C8.pe_gc rfl T.g_OUT_OF_RANGE) pa_nil)))) pss_nil)
      (pss_cons (ps_if (pt_cmpR op_eq (pe_callB call_len_seq (by rfl) T.b_len (by decide +kernel) (pa_cons (pe_fld (pv 0) rfl) pa_nil)) (C8.pe_gc rfl T.g_MOST_ORDERS) (nomark _)) (pss_one (ps_ret (pe_lst (pa_cons (C8.pe_gc rfl T.g_FULL) pa_nil)))) pss_nil)
      (pss_cons (ps_expr (pe_bm PySem.F.plainAttrs_list PySem.F.slot_list_append PySem.F.type_list_append mt_append (pe_fld (pv 0) rfl) (pa_cons (C8.pe_mk m_Order hr (by decide) rfl (pa_cons (pv 2) pa_nil)) pa_nil)))
      (pss_one (ps_ret (pe_lst (pa_cons (pe_op op_sub (pe_callB call_len_seq (by rfl) T.b_len (by decide +kernel) (pa_cons (pe_fld (pv 0) rfl) pa_nil)) pe_int) pa_nil)))))))), ?body⟩
  case len =>
    rintro vs H Q E ⟨_, _, _, _, rfl, _⟩
    rfl
  case body =>
    obtain ⟨f, q, n, d, rfl, I, kk⟩ := h
    have A := I.A
    have nor := I.ok.nor
    unfold orderQ at kk
    refine s_asg (v := nV d) (e_arg (i := 0) I e_var e_c rfl) fun H1 e1 => ?_
    have A1 := A.mono e1
    refine s_when (b := !(decide (q.now ≤ d) && decide (d ≤ 1000000))) (t_not (t_is (t_test (e_chain (i := q.now) (j := d) (l := 1000000) (e_now T A1 e_var) e_var e_c)) ?_)) (fun c H2 e2 => ?_) fun c H2 e2 => ?_
    · congr 1
      · exact decide_eq_decide.mpr Int.ofNat_le
      · exact decide_eq_decide.mpr (by omega)
    · have c : d < q.now ∨ 1000000 < d := by
        simp only [Bool.not_eq_true', Bool.and_eq_false_iff, decide_eq_false_iff_not] at c
        omega
      rw [if_pos c] at kk
      exact s_say e_c rfl (kk.rd A (e1.trans e2))
    · have c : ¬ (d < q.now ∨ 1000000 < d) := by
        simp only [Bool.not_eq_false', Bool.and_eq_true, decide_eq_true_eq] at c
        omega
      rw [if_neg c] at kk
      have A2 := A1.mono e2
      refine s_when (t_eqn (n := 60) (e_no T A2 e_var) e_c) (fun c H3 e3 => ?_) fun c H3 e3 => ?_
      · rw [if_pos (by simpa using c)] at kk
        exact s_say e_c rfl (kk.rd A (e1.trans (e2.trans e3)))
      · rw [if_neg (by simpa using c)] at kk
        have e13 := e1.trans (e2.trans e3)
        have A3 := A.mono e13
        show (tBM K "list" rAppend (tFld K (tVar 0) "orders") (tCons (tMake cOrder spOrderI [] C8.E0 (tCons (tVar 2) tNil)) tNil)) _ _ _
        refine d_bm (e_orders T A3 e_var) (fun H4 e4 => .inl ⟨rfl, _, SqL.of (A3.mono e4).o⟩) fun H4 e4 => ?_
        refine (m_make (fs := ordF d 0) (a_cons (e_var (i := 2) (v := nV d) rfl) a_nil) (fun args H5 e5 hargs p H6 Q6 e6 fill => ?_) : EvM (tMake cOrder spOrderI [] C8.E0 (tCons (tVar 2) tNil)) _ H4 _ _) H4 (Xt.refl _) _ fun p dx H5 np e5 hp => ?_
        · obtain ⟨_, rfl, rfl⟩ := hargs
          exact ⟨d, fill⟩
        · have e45 := e4.trans e5
          have A5 := A3.mono e45
          have b6 : Xb f.o H5 (upd H5 f.o (.lst (f.os.map V.ref ++ [.ref p]))) := Xb.upd A5.o nt_lst nl
          have h6 : (upd H5 f.o (.lst (f.os.map V.ref ++ [.ref p]))) f.o = some (.lst ((f.os ++ [p]).map V.ref)) := by
            rw [upd_same, List.map_append]
            rfl
          refine ⟨f.o, _, .ref p, rfl, rfl, A5.o, szlt (by rw [List.length_map, A.ol]; omega), ?_⟩
          generalize upd H5 f.o (.lst (f.os.map V.ref ++ [.ref p])) = H6 at b6 h6
          have A6 := A5.addO (a := p) (y := ⟨d, 0⟩) b6 h6 ⟨dx, hp⟩ fun z => by
            obtain ⟨i, hi⟩ := List.mem_iff_getElem?.mp z
            obtain ⟨y, hy⟩ := lt_get (l := q.orders) (i := i) (by rw [← A.ol]; exact (List.getElem?_eq_some_iff.mp hi).1)
            obtain ⟨dx2, ho⟩ := (A3.mono e4).oo i p y hi hy
            exact np _ ho nt_ins
          have k6 : Kp f { f with os := f.os ++ [p] } H H6 := ((Kp.of (f := f) (e13.trans e45)).trans (Kp.list A5.o (by simp [Foot]) b6)).foot rfl
          refine s_say (σ := [some (.ref f.p), none, none]) (D := { nx := fun _ H' => Q .non H', rt := Q }) (z := ((q.orders.length : Nat) : Int)) (e_is (e_op (e_no T A6 (e_var (i := 0) (v := .ref f.p) rfl)) e_c rv_i0) ?_) rfl (kk.at_ (f1 := { f with os := f.os ++ [p] }) rfl k6 A6)
          show V.int _ = V.int _
          congr 1
          show (((q.orders ++ [(⟨d, 0⟩ : Kyk.Order)]).length : Nat) : Int) - 1 = _
          rw [List.length_append]
          show ((_ + 1 : Nat) : Int) - 1 = _
          omega
def closeQ (q : Kyk.Laundry) (o : Nat) : Kyk.Laundry × Kyk.Ans := if stRef q o [0] < 0 then (q, say (stRef q o [0])) else if (Kyk.ofOrder q o).isEmpty then (q, say (-6)) else (Kyk.setOrder q o 1, say 0)
def spClose : Sp := fun vs H Q _ => ∃ (f : Hm) (q : Kyk.Laundry) (n : Addr) (o : Nat), vs = [.ref f.p, .ref n] ∧ Inp H f q n [nV o] ∧ Done f H Q (closeQ q o).1 (toL (closeQ q o).2)
theorem setOrder_eq {q : Kyk.Laundry} {o s : Nat} {y : Kyk.Order} (h : q.orders[o]? = some y) : Kyk.setOrder q o s = { q with orders := q.orders.set o { y with state := s } } := by
  unfold Kyk.setOrder
  rw [order_get h]
theorem d_setState {σ : L2.St} {H : Hp} {te to ts : TE} {f : Hm} {q : Kyk.Laundry} {o s : Nat} {y : Kyk.Order} {Q : VK} (A : HousAt H f q) (hy : q.orders[o]? = some y) (h : Ev te σ H (.ref f.p)) (h2 : Ev to σ H (nV o)) (h3 : Ev ts σ H (nV s))
    (k : ∀ H', Kp f f H H' → HousAt H' f (Kyk.setOrder q o s) → Q .non H') : tMeth cHouse "set_state" spSetState [] C8.E0 te (tCons to (tCons ts tNil)) σ H Q := by
  refine d_meth h A.h (houF_m (by decide +kernel)) (a_cons h2 (a_cons h3 a_nil)) ?_
  rintro _ H3 e3 ⟨_, rfl, _, rfl, rfl⟩
  refine ⟨f, q, o, s, y, rfl, A.mono e3, hy, fun H4 k4 A4 => k H4 ((Kp.of e3).trans k4) ?_⟩
  rw [setOrder_eq hy]
  exact A4
theorem ok_close (T : Txt K mg) (c_state_refusal : C8.Cal P w K mg base 1 "state_refusal" spStRef []) (w_things_of : C8.Met P w K mg base 1 cHouse "things_of" spThingsOf []) (w_set_state : C8.Met P w K mg base 1 cHouse "set_state" spSetState []) : C8.Cal P w K mg base 2 "close" spClose [] ∧ C8.CalAt P w K mg base 2 425 spClose := by
  have nd := (C8.fnScope_by sc_close).nd
  refine mkCal T.d_close T.m_close (fun _ _ _ _ _ _ us hl => match us, hl with | [_, _], _ => rfl) sc_close ?len fun cdv A outer s H vs Q E hr h => ⟨_, (pss_cons (ps_set (i := 2) nd rfl (Or.inl rfl) (pe_ix ix_list (pv 1) pe_int (fun _ _ => rfl)))
      (pss_cons (ps_set (i := 3) nd rfl (Or.inl rfl) (C8.pe_c c_state_refusal hr (by decide) rfl (pa_cons (pv 0) (pa_cons (pv 2) (pa_cons (pe_lst (pa_cons (C8.pe_gc rfl T.g_STILL_OPEN) pa_nil)) pa_nil)))))
      (pss_cons (ps_if (pt_cmpR op_lt (pv 3) pe_int (nomark _)) (pss_one (ps_ret (pe_lst (pa_cons (pv 3) pa_nil)))) pss_nil)
      (pss_cons (ps_if (pt_cmpR op_eq (pe_callB call_len_seq (by rfl) T.b_len (by decide +kernel) (pa_cons (C8.pe_mt w_things_of hr (by decide) (pv 0) (pa_cons (pv 2) pa_nil)) pa_nil)) pe_int (nomark _)) (pss_one (ps_ret (pe_lst (pa_cons (C8.pe_gc rfl T.g_NOTHING_THERE) pa_nil)))) pss_nil)
      (pss_cons (ps_expr (C8.pe_mt w_set_state hr (by decide) (pv 0) (pa_cons (pv 2) (pa_cons (C8.pe_gc rfl T.g_CLOSED) pa_nil))))
      (pss_one (ps_ret (pe_lst (pa_cons pe_int pa_nil))))))))), ?body⟩
  case len =>
    rintro vs H Q E ⟨_, _, _, _, rfl, _⟩
    rfl
  case body =>
    obtain ⟨f, q, n, o, rfl, I, kk⟩ := h
    have A := I.A
    unfold closeQ at kk
    refine s_asg (v := nV o) (e_arg (i := 0) I e_var e_c rfl) fun H1 e1 => ?_
    refine s_asg (v := .int (stRef q o [0])) (e_stRef (A.mono e1) e_var e_var (n_lst (v_cons e_c v_nil) (by show 1 ≤ 100000; decide))) fun H2 e2 => ?_
    refine s_when (b := decide (stRef q o [0] < 0)) (t_test (e_op e_var e_c rv_i0)) (fun c H3 e3 => ?_) fun c H3 e3 => ?_
    · rw [if_pos (by simpa using c)] at kk
      exact s_say e_var rfl (kk.rd A (e1.trans (e2.trans e3)))
    · have c : ¬ stRef q o [0] < 0 := by simpa using c
      rw [if_neg c] at kk
      obtain ⟨_, y, hy, _⟩ := stRef_neg c
      have e13 := e1.trans (e2.trans e3)
      refine s_when (b := (Kyk.ofOrder q o).isEmpty) (t_is (t_nilN (n_things (A.mono e13) I.ok e_var e_var)) ?_) (fun c2 H4 e4 => ?_) fun c2 H4 e4 => ?_
      · rw [map_isEmpty]
        exact isEmpty_len (ofOrd_len A.tt.1 o)
      · rw [if_pos c2] at kk
        exact s_say e_c rfl (kk.rd A (e13.trans e4))
      · rw [if_neg (by rw [c2]; exact Bool.false_ne_true)] at kk
        show (tMeth cHouse "set_state" spSetState [] C8.E0 (tVar 0) (tCons (tVar 2) (tCons (tC (.int 1)) tNil))) _ _ _
        refine d_setState (s := 1) (A.mono (e13.trans e4)) hy e_var e_var e_c fun H5 k5 A5 => ?_
        exact s_say (σ := []) (D := { nx := fun _ H' => Q .non H', rt := Q }) e_c rfl (kk.at_ rfl ((Kp.of (e13.trans e4)).trans k5) A5)
def packQ (q : Kyk.Laundry) (o : Nat) : Kyk.Laundry × Kyk.Ans := if stRef q o [1] < 0 then (q, say (stRef q o [1])) else if (Kyk.ofOrder q o).any (fun i => (Kyk.item q i).place != 2) then (q, say (-61)) else (Kyk.setOrder q o 2, say ((Kyk.ofOrder q o).length : Nat))
def cancelQ (q : Kyk.Laundry) (o : Nat) : Kyk.Laundry × Kyk.Ans := if stRef q o [0, 1] < 0 then (q, say (stRef q o [0, 1])) else if (Kyk.ofOrder q o).any (fun i => (Kyk.item q i).place != 0) then (q, say (-17)) else (Kyk.setOrder q o 4, say ((Kyk.ofOrder q o).length : Nat))
def spPack : Sp := fun vs H Q _ => ∃ (f : Hm) (q : Kyk.Laundry) (n : Addr) (o : Nat), vs = [.ref f.p, .ref n] ∧ Inp H f q n [nV o] ∧ Done f H Q (packQ q o).1 (toL (packQ q o).2)
def spCancel : Sp := fun vs H Q _ => ∃ (f : Hm) (q : Kyk.Laundry) (n : Addr) (o : Nat), vs = [.ref f.p, .ref n] ∧ Inp H f q n [nV o] ∧ Done f H Q (cancelQ q o).1 (toL (cancelQ q o).2)
theorem any_place {f : Hm} {q : Kyk.Laundry} (h : f.ts.length = q.items.length) (o p : Nat) : (((ofOrd f q o).map fun z => z.2.place != p).any id) = (Kyk.ofOrder q o).any fun i => (Kyk.item q i).place != p := by
  have e1 : (Kyk.ofOrder q o).map (fun i => (Kyk.item q i).place != p) = (ofOrd f q o).map fun z => z.2.place != p := by
    rw [show (fun i => (Kyk.item q i).place != p) = (fun y : Kyk.Item => y.place != p) ∘ Kyk.item q from rfl, ← List.map_map, ofOrder_map, ← ofOrd_map h, List.map_map]
    rfl
  rw [← e1, List.any_map]
  rfl
theorem t_anyPlace (T : Txt K mg) {σ : L2.St} {H : Hp} {f : Hm} {q : Kyk.Laundry} {o p : Nat} {a : Addr} {sa st : Nat} {tp : TE} (A : HousAt H f q) (ok : Ok q) (ha : σ[sa]? = some (some (.ref a))) (hl : H a = some (.lst ((ofOrd f q o).map fun z => .ref z.1))) (d : st < σ.length) (hp : ∀ (σ : L2.St) (H : Hp), Ev tp σ H (nV p)) (ne : sa ≠ st) :
    EvT (tB (tCB (rAny K) (tCons (tLc (iList K (tVar sa)) (gName st) tYes (tOp rNe (tFld K (tVar st) "place") tp) [st]) tNil))) σ H ((Kyk.ofOrder q o).any fun i => (Kyk.item q i).place != p) := by
  refine t_b (e_is (e_anyN (l := (ofOrd f q o).map fun z => z.2.place != p) ?_) (by rw [any_place A.tt.1]))
  rw [List.map_map]
  have nit := ok.nit
  have lo := ofOrd_le (f := f) (q := q) o
  refine n_map (ofOrd f q o) _ (w_list (e_var ha) (SqL.of hl)) (List.length_map ..) (by rw [List.length_map]; omega) fun i z H1 e1 hz => ?_
  have hs : ((wipe σ [st]).set st ((ofOrd f q o).map fun z => V.ref z.1)[i]?)[st]? = some (some (.ref z.1)) := by
    rw [List.getElem?_set_self (by
      have : (wipe σ [st]).length = σ.length := by
        simp [wipe]
      omega), List.getElem?_map, hz]
    rfl
  refine ⟨?_, e_is (e_op (e_tfld T ((ofOrd_at A hz).2.2.mono e1) (e_var hs) T.n_Thing_place fun _ => thgF_place) (hp _ _) (rv_ne rfl)) ?_⟩
  · simp [wipe]
  · show V.bl (!decide _) = V.bl (_ != _)
    rw [eq_nat]
    rfl
end
end Wash
namespace Wash
open PySem PySem.Spec PyProof.Rows L2
open Kyk (say)
section
variable {P : Program} {w : World} {K : PySem.W.Frag} {mg : Str → Option Value} {base : Heap}
theorem ok_pack (T : Txt K mg) (c_state_refusal : C8.Cal P w K mg base 1 "state_refusal" spStRef []) (w_things_of : C8.Met P w K mg base 1 cHouse "things_of" spThingsOf []) (w_set_state : C8.Met P w K mg base 1 cHouse "set_state" spSetState []) : C8.Cal P w K mg base 2 "pack" spPack [] ∧ C8.CalAt P w K mg base 2 430 spPack := by
  have nd := (C8.fnScope_by sc_pack).nd
  refine mkCal T.d_pack T.m_pack (fun _ _ _ _ _ _ us hl => match us, hl with | [_, _], _ => rfl) sc_pack ?len fun cdv A outer s H vs Q E hr h => ⟨_, (pss_cons (ps_set (i := 2) nd rfl (Or.inl rfl) (pe_ix ix_list (pv 1) pe_int (fun _ _ => rfl)))
      (pss_cons (ps_set (i := 3) nd rfl (Or.inl rfl) (C8.pe_c c_state_refusal hr (by decide) rfl (pa_cons (pv 0) (pa_cons (pv 2) (pa_cons (pe_lst (pa_cons (C8.pe_gc rfl T.g_CLOSED) pa_nil)) pa_nil)))))
      (pss_cons (ps_if (pt_cmpR op_lt (pv 3) pe_int (nomark _)) (pss_one (ps_ret (pe_lst (pa_cons (pv 3) pa_nil)))) pss_nil)
      (pss_cons (ps_set (i := 4) nd rfl (Or.inl rfl) (C8.pe_mt w_things_of hr (by decide) (pv 0) (pa_cons (pv 2) pa_nil)))
      (pss_cons (ps_if (pt_val (pe_callB (cr_any rfl) (by rfl) T.b_any (by decide +kernel) (pa_cons (pe_lc (own := [("thing", 5)]) (te := (tOp rNe (tFld K (tVar 5) "place") (tC (.int (2))))) (tt := tYes) rfl nd (pi_list (pv 4)) (blkOk_by (own := [("thing", 5)]) (N := N_pack) (sc := C8.fnScope s_pack) (by decide +kernel)) (fun _ _ _ _ _ => (pg_name (i := 5) nd rfl (Or.inl rfl))) (fun _ _ _ _ _ => pts_nil) (fun _ _ _ _ _ => (pe_cmpR op_ne (pe_fld (pv 5) rfl) (C8.pe_gc rfl T.g_WASHED) (nomark _)))) pa_nil))) (pss_one (ps_ret (pe_lst (pa_cons (C8.pe_gc rfl T.g_NOT_ALL_WASHED) pa_nil)))) pss_nil)
      (pss_cons (ps_expr (C8.pe_mt w_set_state hr (by decide) (pv 0) (pa_cons (pv 2) (pa_cons (C8.pe_gc rfl T.g_PACKED) pa_nil))))
      (pss_one (ps_ret (pe_lst (pa_cons (pe_callB call_len_seq (by rfl) T.b_len (by decide +kernel) (pa_cons (pv 4) pa_nil)) pa_nil)))))))))), ?body⟩
  case len =>
    rintro vs H Q E ⟨_, _, _, _, rfl, _⟩
    rfl
  case body =>
    obtain ⟨f, q, n, o, rfl, I, kk⟩ := h
    have A := I.A
    unfold packQ at kk
    refine s_asg (v := nV o) (e_arg (i := 0) I e_var e_c rfl) fun H1 e1 => ?_
    refine s_asg (v := .int (stRef q o [1])) (e_stRef (A.mono e1) e_var e_var (n_lst (v_cons e_c v_nil) (by show 1 ≤ 100000; decide))) fun H2 e2 => ?_
    refine s_when (b := decide (stRef q o [1] < 0)) (t_test (e_op e_var e_c rv_i0)) (fun c H3 e3 => ?_) fun c H3 e3 => ?_
    · rw [if_pos (by simpa using c)] at kk
      exact s_say e_var rfl (kk.rd A (e1.trans (e2.trans e3)))
    · have c : ¬ stRef q o [1] < 0 := by simpa using c
      rw [if_neg c] at kk
      obtain ⟨_, y, hy, _⟩ := stRef_neg c
      have e13 := e1.trans (e2.trans e3)
      refine s_asgN (n_things (A.mono e13) I.ok e_var e_var) fun a H4 na e4 ha => ?_
      refine s_when (t_anyPlace T (p := 2) (st := 5) (A.mono (e13.trans e4)) I.ok rfl ha (by show 5 < 6; decide) (fun _ _ => e_c) (by decide)) (fun c2 H5 e5 => ?_) fun c2 H5 e5 => ?_
      · rw [if_pos c2] at kk
        exact s_say e_c rfl (kk.rd A (e13.trans (e4.trans e5)))
      · rw [if_neg (by rw [c2]; exact Bool.false_ne_true)] at kk
        have e15 := e13.trans (e4.trans e5)
        have aF : a ∉ Foot f := fun z => by
          obtain ⟨xs, e⟩ := foot_lst (A.mono e13) z
          exact na _ e nt_lst
        show (tMeth cHouse "set_state" spSetState [] C8.E0 (tVar 0) (tCons (tVar 2) (tCons (tC (.int 2)) tNil))) _ _ _
        refine d_setState (s := 2) (A.mono e15) hy e_var e_var e_c fun H6 k6 A6 => ?_
        have ha6 := (k6.l a _ aF (e5.k _ _ ha nt_lst)).1
        exact s_say (σ := [some (.ref f.p), some (.ref n), some (nV o), some (.int (stRef q o [1])), some (.ref a), none]) (D := { nx := fun _ H' => Q .non H', rt := Q }) (e_is (e_len (e_var (i := 4) rfl) (SqL.of ha6)) (by rw [List.length_map, ofOrd_len A.tt.1] <;> rfl)) rfl (kk.at_ rfl ((Kp.of e15).trans k6) A6)
theorem ok_cancel (T : Txt K mg) (c_state_refusal : C8.Cal P w K mg base 1 "state_refusal" spStRef []) (w_things_of : C8.Met P w K mg base 1 cHouse "things_of" spThingsOf []) (w_set_state : C8.Met P w K mg base 1 cHouse "set_state" spSetState []) : C8.Cal P w K mg base 2 "cancel" spCancel [] ∧ C8.CalAt P w K mg base 2 442 spCancel := by
  have nd := (C8.fnScope_by sc_cancel).nd
  refine mkCal T.d_cancel T.m_cancel (fun _ _ _ _ _ _ us hl => match us, hl with | [_, _], _ => rfl) sc_cancel ?len fun cdv A outer s H vs Q E hr h => ⟨_, (pss_cons (ps_set (i := 2) nd rfl (Or.inl rfl) (pe_ix ix_list (pv 1) pe_int (fun _ _ => rfl)))
      (pss_cons (ps_set (i := 3) nd rfl (Or.inl rfl) (C8.pe_c c_state_refusal hr (by decide) rfl (pa_cons (pv 0) (pa_cons (pv 2) (pa_cons (pe_lst (pa_cons (C8.pe_gc rfl T.g_STILL_OPEN) (pa_cons (C8.pe_gc rfl T.g_CLOSED) pa_nil))) pa_nil)))))
      (pss_cons (ps_if (pt_cmpR op_lt (pv 3) pe_int (nomark _)) (pss_one (ps_ret (pe_lst (pa_cons (pv 3) pa_nil)))) pss_nil)
      (pss_cons (ps_set (i := 4) nd rfl (Or.inl rfl) (C8.pe_mt w_things_of hr (by decide) (pv 0) (pa_cons (pv 2) pa_nil)))
      (pss_cons (ps_if (pt_val (pe_callB (cr_any rfl) (by rfl) T.b_any (by decide +kernel) (pa_cons (pe_lc (own := [("thing", 5)]) (te := (tOp rNe (tFld K (tVar 5) "place") (tC (.int (0))))) (tt := tYes) rfl nd (pi_list (pv 4)) (blkOk_by (own := [("thing", 5)]) (N := N_cancel) (sc := C8.fnScope s_cancel) (by decide +kernel)) (fun _ _ _ _ _ => (pg_name (i := 5) nd rfl (Or.inl rfl))) (fun _ _ _ _ _ => pts_nil) (fun _ _ _ _ _ => (pe_cmpR op_ne (pe_fld (pv 5) rfl) (C8.pe_gc rfl T.g_UNWASHED) (nomark _)))) pa_nil))) (pss_one (ps_ret (pe_lst (pa_cons (C8.pe_gc rfl T.g_ALREADY) pa_nil)))) pss_nil)
      (pss_cons (ps_expr (C8.pe_mt w_set_state hr (by decide) (pv 0) (pa_cons (pv 2) (pa_cons (C8.pe_gc rfl T.g_CALLED_OFF) pa_nil))))
      (pss_one (ps_ret (pe_lst (pa_cons (pe_callB call_len_seq (by rfl) T.b_len (by decide +kernel) (pa_cons (pv 4) pa_nil)) pa_nil)))))))))), ?body⟩
  case len =>
    rintro vs H Q E ⟨_, _, _, _, rfl, _⟩
    rfl
  case body =>
    obtain ⟨f, q, n, o, rfl, I, kk⟩ := h
    have A := I.A
    unfold cancelQ at kk
    refine s_asg (v := nV o) (e_arg (i := 0) I e_var e_c rfl) fun H1 e1 => ?_
    refine s_asg (v := .int (stRef q o [0, 1])) (e_stRef (A.mono e1) e_var e_var (n_lst (v_cons e_c (v_cons e_c v_nil)) (by show 2 ≤ 100000; decide))) fun H2 e2 => ?_
    refine s_when (b := decide (stRef q o [0, 1] < 0)) (t_test (e_op e_var e_c rv_i0)) (fun c H3 e3 => ?_) fun c H3 e3 => ?_
    · rw [if_pos (by simpa using c)] at kk
      exact s_say e_var rfl (kk.rd A (e1.trans (e2.trans e3)))
    · have c : ¬ stRef q o [0, 1] < 0 := by simpa using c
      rw [if_neg c] at kk
      obtain ⟨_, y, hy, _⟩ := stRef_neg c
      have e13 := e1.trans (e2.trans e3)
      refine s_asgN (n_things (A.mono e13) I.ok e_var e_var) fun a H4 na e4 ha => ?_
      refine s_when (t_anyPlace T (p := 0) (st := 5) (A.mono (e13.trans e4)) I.ok rfl ha (by show 5 < 6; decide) (fun _ _ => e_c) (by decide)) (fun c2 H5 e5 => ?_) fun c2 H5 e5 => ?_
      · rw [if_pos c2] at kk
        exact s_say e_c rfl (kk.rd A (e13.trans (e4.trans e5)))
      · rw [if_neg (by rw [c2]; exact Bool.false_ne_true)] at kk
        have e15 := e13.trans (e4.trans e5)
        have aF : a ∉ Foot f := fun z => by
          obtain ⟨xs, e⟩ := foot_lst (A.mono e13) z
          exact na _ e nt_lst
        show (tMeth cHouse "set_state" spSetState [] C8.E0 (tVar 0) (tCons (tVar 2) (tCons (tC (.int 4)) tNil))) _ _ _
        refine d_setState (s := 4) (A.mono e15) hy e_var e_var e_c fun H6 k6 A6 => ?_
        have ha6 := (k6.l a _ aF (e5.k _ _ ha nt_lst)).1
        exact s_say (σ := [some (.ref f.p), some (.ref n), some (nV o), some (.int (stRef q o [0, 1])), some (.ref a), none]) (D := { nx := fun _ H' => Q .non H', rt := Q }) (e_is (e_len (e_var (i := 4) rfl) (SqL.of ha6)) (by rw [List.length_map, ofOrd_len A.tt.1] <;> rfl)) rfl (kk.at_ rfl ((Kp.of e15).trans k6) A6)
/-! giving out, bills -/
theorem e_bill {σ : L2.St} {H : Hp} {te to : TE} {f : Hm} {q : Kyk.Laundry} {o : Nat} (A : HousAt H f q) (ok : Ok q) (h : Ev te σ H (.ref f.p)) (h2 : Ev to σ H (nV o)) : Ev (tMeth cHouse "bill_of" spBill [] C8.E0 te (tCons to tNil)) σ H (nV (Kyk.bill q o)) := by
  refine e_meth h A.h (houF_m (by decide +kernel)) (a_cons h2 a_nil) ?_
  rintro _ H2 e2 ⟨_, rfl, rfl⟩ Q2 q2
  exact ⟨f, q, o, rfl, A.mono e2, ok, q2⟩
def billR (q : Kyk.Laundry) (o : Nat) : Kyk.Ans := if q.orders.length ≤ o then say (-2) else say (Kyk.bill q o : Nat)
def spBillC : Sp := fun vs H Q _ => ∃ (f : Hm) (q : Kyk.Laundry) (n : Addr) (o : Nat), vs = [.ref f.p, .ref n] ∧ Inp H f q n [nV o] ∧ Done f H Q q (toL (billR q o))
theorem ok_billC (T : Txt K mg) (w_bill_of : C8.Met P w K mg base 2 cHouse "bill_of" spBill []) : C8.Cal P w K mg base 3 "bill" spBillC [] ∧ C8.CalAt P w K mg base 3 449 spBillC := by
  have nd := (C8.fnScope_by sc_bill).nd
  refine mkCal T.d_bill T.m_bill (fun _ _ _ _ _ _ us hl => match us, hl with | [_, _], _ => rfl) sc_bill ?len fun cdv A outer s H vs Q E hr h => ⟨_, (pss_cons (ps_set (i := 2) nd rfl (Or.inl rfl) (pe_ix ix_list (pv 1) pe_int (fun _ _ => rfl)))
      (pss_cons (ps_if (pt_cmpR op_ge (pv 2) (pe_callB call_len_seq (by rfl) T.b_len (by decide +kernel) (pa_cons (pe_fld (pv 0) rfl) pa_nil)) (nomark _)) (pss_one (ps_ret (pe_lst (pa_cons (C8.pe_gc rfl T.g_NOT_THERE) pa_nil)))) pss_nil)
      (pss_one (ps_ret (pe_lst (pa_cons (C8.pe_mt w_bill_of hr (by decide) (pv 0) (pa_cons (pv 2) pa_nil)) pa_nil)))))), ?body⟩
  case len =>
    rintro vs H Q E ⟨_, _, _, _, rfl, _⟩
    rfl
  case body =>
    obtain ⟨f, q, n, o, rfl, I, kk⟩ := h
    have A := I.A
    unfold billR at kk
    refine s_asg (v := nV o) (e_arg (i := 0) I e_var e_c rfl) fun H1 e1 => ?_
    refine s_when (t_ge e_var (e_no T (A.mono e1) e_var)) (fun c H2 e2 => ?_) fun c H2 e2 => ?_
    · rw [if_pos (by simpa using c)] at kk
      exact s_say e_c rfl (kk.rd A (e1.trans e2))
    · rw [if_neg (by simpa using c)] at kk
      exact s_say (e_bill (A.mono (e1.trans e2)) I.ok e_var e_var) rfl (kk.rd A (e1.trans e2))
def handQ (q : Kyk.Laundry) (o : Nat) : Kyk.Laundry × Kyk.Ans := if stRef q o [2] < 0 then (q, say (stRef q o [2])) else ({ Kyk.setOrder q o 3 with till := q.till + Kyk.bill q o }, say (Kyk.bill q o : Nat))
def spHand : Sp := fun vs H Q _ => ∃ (f : Hm) (q : Kyk.Laundry) (n : Addr) (o : Nat), vs = [.ref f.p, .ref n] ∧ Inp H f q n [nV o] ∧ Done f H Q (handQ q o).1 (toL (handQ q o).2)
/-- an order that has no load in a machine may go on -/
theorem ok_set {q : Kyk.Laundry} (ok : Ok q) {o s : Nat} {y : Kyk.Order} (hy : q.orders[o]? = some y) (h : y.state ≠ 1 ∨ ∀ z ∈ q.items, z.order = o → z.place ≠ 1) : Ok (Kyk.setOrder q o s) := by
  rw [setOrder_eq hy]
  refine { ok with ord := fun z hz => by show z.order < (q.orders.set o _).length; rw [List.length_set]; exact ok.ord z hz, nor := by show (q.orders.set o _).length ≤ 60; rw [List.length_set]; exact ok.nor, lod := fun m hm i hi => ?_ }
  obtain ⟨z, h1, h2, h3⟩ := ok.lod m hm i hi
  refine ⟨z, h1, h2, ?_⟩
  by_cases e : z.order = o
  · rcases h with h | h
    · rw [e, order_get hy] at h3
      exact absurd h3 h
    · exact absurd h2 (h z (List.mem_of_getElem? h1) e)
  · have : Kyk.order { q with orders := q.orders.set o { y with state := s } } z.order = Kyk.order q z.order := by
      unfold Kyk.order
      show (q.orders.set o _).getD _ _ = _
      rw [List.getD_eq_getElem?_getD, List.getD_eq_getElem?_getD, List.getElem?_set_ne (Ne.symm e)]
    rw [this]
    exact h3
theorem bill_set {q : Kyk.Laundry} {o s : Nat} : Kyk.bill (Kyk.setOrder q o s) o = Kyk.bill q o := rfl
theorem houF_putT {price till till' now : Int} {m o t : Addr} : putF "till" (.int till') (houF price till now m o t) = houF price till' now m o t := rfl
theorem ok_hand (T : Txt K mg) (c_state_refusal : C8.Cal P w K mg base 1 "state_refusal" spStRef []) (w_bill_of : C8.Met P w K mg base 2 cHouse "bill_of" spBill []) (w_set_state : C8.Met P w K mg base 1 cHouse "set_state" spSetState []) : C8.Cal P w K mg base 3 "hand" spHand [] ∧ C8.CalAt P w K mg base 3 437 spHand := by
  have nd := (C8.fnScope_by sc_hand).nd
  refine mkCal T.d_hand T.m_hand (fun _ _ _ _ _ _ us hl => match us, hl with | [_, _], _ => rfl) sc_hand ?len fun cdv A outer s H vs Q E hr h => ⟨_, (pss_cons (ps_set (i := 2) nd rfl (Or.inl rfl) (pe_ix ix_list (pv 1) pe_int (fun _ _ => rfl)))
      (pss_cons (ps_set (i := 3) nd rfl (Or.inl rfl) (C8.pe_c c_state_refusal hr (by decide) rfl (pa_cons (pv 0) (pa_cons (pv 2) (pa_cons (pe_lst (pa_cons (C8.pe_gc rfl T.g_PACKED) pa_nil)) pa_nil)))))
      (pss_cons (ps_if (pt_cmpR op_lt (pv 3) pe_int (nomark _)) (pss_one (ps_ret (pe_lst (pa_cons (pv 3) pa_nil)))) pss_nil)
      (pss_cons (ps_expr (C8.pe_mt w_set_state hr (by decide) (pv 0) (pa_cons (pv 2) (pa_cons (C8.pe_gc rfl T.g_GIVEN_OUT) pa_nil))))
      (pss_cons (ps_set (i := 4) nd rfl (Or.inl rfl) (C8.pe_mt w_bill_of hr (by decide) (pv 0) (pa_cons (pv 2) pa_nil)))
      (pss_cons (ps_fld (pv 0) (pe_op op_add (pe_fld (pv 0) rfl) (pv 4)) rfl)
      (pss_one (ps_ret (pe_lst (pa_cons (pv 4) pa_nil)))))))))), ?body⟩
  case len =>
    rintro vs H Q E ⟨_, _, _, _, rfl, _⟩
    rfl
  case body =>
    obtain ⟨f, q, n, o, rfl, I, kk⟩ := h
    have A := I.A
    unfold handQ at kk
    refine s_asg (v := nV o) (e_arg (i := 0) I e_var e_c rfl) fun H1 e1 => ?_
    refine s_asg (v := .int (stRef q o [2])) (e_stRef (A.mono e1) e_var e_var (n_lst (v_cons e_c v_nil) (by show 1 ≤ 100000; decide))) fun H2 e2 => ?_
    refine s_when (b := decide (stRef q o [2] < 0)) (t_test (e_op e_var e_c rv_i0)) (fun c H3 e3 => ?_) fun c H3 e3 => ?_
    · rw [if_pos (by simpa using c)] at kk
      exact s_say e_var rfl (kk.rd A (e1.trans (e2.trans e3)))
    · have c : ¬ stRef q o [2] < 0 := by simpa using c
      rw [if_neg c] at kk
      obtain ⟨_, y, hy, hs⟩ := stRef_neg c
      have ys : y.state ≠ 1 := fun z => by
        rw [z] at hs
        cases hs
      have e13 := e1.trans (e2.trans e3)
      show (tMeth cHouse "set_state" spSetState [] C8.E0 (tVar 0) (tCons (tVar 2) (tCons (tC (.int 3)) tNil))) _ _ _
      refine d_setState (s := 3) (A.mono e13) hy e_var e_var e_c fun H4 k4 A4 => ?_
      refine s_asg (σ := [some (.ref f.p), some (.ref n), some (nV o), some (.int (stRef q o [2])), none]) (D := { nx := fun _ H' => Q .non H', rt := Q }) (v := nV (Kyk.bill q o)) (e_is (e_bill (q := Kyk.setOrder q o 3) (o := o) A4 (ok_set I.ok hy (.inl ys)) (e_var (i := 0) rfl) (e_var (i := 2) rfl)) rfl) fun H5 e5 => ?_
      have A5 := A4.mono e5
      refine s_fld (v := nV (q.till + Kyk.bill q o)) (e_is (e_op (e_fld (e_var (i := 0) rfl) A5.h T.c_House T.n_House_till houF_till) (e_var (i := 4) rfl) rv_i0) ?_) (e_var (i := 0) rfl) A5.h T.c_House T.n_House_till (by show 6 < 1000; decide) fun H6 b6 h6 => ?_
      · show V.int (((q.till : Nat) : Int) + ((Kyk.bill q o : Nat) : Int)) = V.int ((q.till + Kyk.bill q o : Nat) : Int)
        rw [Int.natCast_add]
      · have A6 := A5.house (price := q.price) (till := q.till + Kyk.bill q o) (now := q.now) b6 (by rw [h6]; exact congrArg (fun fs => some (HO.ins cHouse f.dx fs)) houF_putT)
        exact s_say (e_var (i := 4) rfl) rfl (kk.at_ rfl ((((Kp.of e13).trans k4).trans (Kp.of e5)).trans (Kp.ins A5.h b6)) A6)
/-! telling -/
def stateR (q : Kyk.Laundry) (o : Nat) : Kyk.Ans := if q.orders.length ≤ o then say (-2) else ⟨((Kyk.order q o).state : Nat), [(Kyk.order q o).due, (Kyk.ofOrder q o).length, ((Kyk.ofOrder q o).filter fun i => placeOf q (Kyk.item q i) == 2).length]⟩
def spTellState : Sp := fun vs H Q _ => ∃ (f : Hm) (q : Kyk.Laundry) (n : Addr) (o : Nat), vs = [.ref f.p, .ref n] ∧ Inp H f q n [nV o] ∧ Done f H Q q (toL (stateR q o))
theorem cnt_places {f : Hm} {q : Kyk.Laundry} (h : f.ts.length = q.items.length) (o : Nat) : ((ofOrd f q o).map fun z => placeOf q z.2).count 2 = ((Kyk.ofOrder q o).filter fun i => placeOf q (Kyk.item q i) == 2).length := by
  have e1 : (Kyk.ofOrder q o).map (fun i => placeOf q (Kyk.item q i)) = (ofOrd f q o).map fun z => placeOf q z.2 := by
    rw [show (fun i => placeOf q (Kyk.item q i)) = placeOf q ∘ Kyk.item q from rfl, ← List.map_map, ofOrder_map, ← ofOrd_map h, List.map_map]
    rfl
  rw [← e1, List.count_eq_length_filter, List.filter_map, List.length_map]
  rfl
theorem ok_tellState (T : Txt K mg) (w_place_of : C8.Met P w K mg base 1 cHouse "place_of" spPlace []) (w_things_of : C8.Met P w K mg base 1 cHouse "things_of" spThingsOf []) : C8.Cal P w K mg base 2 "tell_state" spTellState [] ∧ C8.CalAt P w K mg base 2 454 spTellState := by
  have nd := (C8.fnScope_by sc_tell_state).nd
  refine mkCal T.d_tell_state T.m_tell_state (fun _ _ _ _ _ _ us hl => match us, hl with | [_, _], _ => rfl) sc_tell_state ?len fun cdv A outer s H vs Q E hr h => ⟨_, (pss_cons (ps_set (i := 2) nd rfl (Or.inl rfl) (pe_ix ix_list (pv 1) pe_int (fun _ _ => rfl)))
      (pss_cons (ps_if (pt_cmpR op_ge (pv 2) (pe_callB call_len_seq (by rfl) T.b_len (by decide +kernel) (pa_cons (pe_fld (pv 0) rfl) pa_nil)) (nomark _)) (pss_one (ps_ret (pe_lst (pa_cons (C8.pe_gc rfl T.g_NOT_THERE) pa_nil)))) pss_nil)
      (pss_cons (ps_set (i := 3) nd rfl (Or.inl rfl) (pe_ix ix_list (pe_fld (pv 0) rfl) (pv 2) (fun _ _ => rfl)))
      (pss_cons (ps_setLc (i := 4) (own := [("thing", 5)]) (te := (tMeth cHouse "place_of" spPlace [] C8.E0 (tVar 0) (tCons (tVar 5) tNil))) (tt := tYes) rfl nd rfl rfl (sw_true rfl rfl rfl (by decide +kernel)) (pi_list (C8.pe_mt w_things_of hr (by decide) (pv 0) (pa_cons (pv 2) pa_nil))) (blkOk_by (own := [("thing", 5)]) (N := N_tell_state) (sc := C8.fnScope s_tell_state) (by decide +kernel)) (fun _ _ _ _ _ => (pg_name (i := 5) nd rfl (Or.inl rfl))) (fun _ _ _ _ _ => pts_nil) (fun _ _ _ _ _ => (C8.pe_mt w_place_of hr (by decide) (pv 0) (pa_cons (pv 5) pa_nil))))
      (pss_one (ps_ret (pe_lst (pa_cons (pe_fld (pv 3) rfl) (pa_cons (pe_fld (pv 3) rfl) (pa_cons (pe_callB call_len_seq (by rfl) T.b_len (by decide +kernel) (pa_cons (pv 4) pa_nil)) (pa_cons (pe_bm PySem.F.plainAttrs_list PySem.F.slot_list_count PySem.F.type_list_count mt_lcount (pv 4) (pa_cons (C8.pe_gc rfl T.g_WASHED) pa_nil)) pa_nil))))))))))), ?body⟩
  case len =>
    rintro vs H Q E ⟨_, _, _, _, rfl, _⟩
    rfl
  case body =>
    obtain ⟨f, q, n, o, rfl, I, kk⟩ := h
    have A := I.A
    have nit := I.ok.nit
    have lo := ofOrd_le (f := f) (q := q) o
    unfold stateR at kk
    refine s_asg (v := nV o) (e_arg (i := 0) I e_var e_c rfl) fun H1 e1 => ?_
    refine s_when (t_ge e_var (e_no T (A.mono e1) e_var)) (fun c H2 e2 => ?_) fun c H2 e2 => ?_
    · rw [if_pos (by simpa using c)] at kk
      exact s_say e_c rfl (kk.rd A (e1.trans e2))
    · have c : ¬ q.orders.length ≤ o := by simpa using c
      rw [if_neg c] at kk
      obtain ⟨y, hy⟩ := lt_get (l := q.orders) (i := o) (by omega)
      obtain ⟨a, ha⟩ := addr_at A.ol hy
      rw [order_get hy] at kk
      have e12 := e1.trans e2
      refine s_asg (v := .ref a) (e_order T (A.mono e12) e_var e_var ha) fun H3 e3 => ?_
      have A3 := A.mono (e12.trans e3)
      refine s_asgN (o := .lst (((ofOrd f q o).map fun z => placeOf q z.2).map nV)) ?_ fun p H4 np e4 hp => ?_
      · rw [List.map_map]
        refine n_map (ofOrd f q o) _ (w_listN (n_things A3 I.ok e_var e_var)) (List.length_map ..) (by rw [List.length_map]; omega) fun i z H4 e4 hz => ⟨rfl, ?_⟩
        obtain ⟨z1, z2, z3⟩ := ofOrd_at A3 hz
        refine e_meth e_var (A3.mono e4).h (houF_m (by decide +kernel)) (a_cons (e_var (v := .ref z.1) (congrArg some (by rw [List.getElem?_map, hz] <;> rfl))) a_nil) ?_
        rintro _ H5 e5 ⟨_, rfl, rfl⟩ Q5 q5
        exact ⟨f, q, z.1, z.2, rfl, A3.mono (e4.trans e5), z3.mono (e4.trans e5), I.ok.ord _ z2, q5⟩
      · have O4 := (A3.mono e4).oo o a y ha hy
        have k2 := kk.rd A (e12.trans (e3.trans e4))
        rw [toL_nat] at k2
        refine s_retN (n_lst (v_cons (e_ofld T O4 e_var T.n_Order_state ordF_state) (v_cons (e_ofld T O4 e_var T.n_Order_due ordF_due) (v_cons (e_is (e_len e_var (SqL.of hp)) (by rw [List.length_map, List.length_map, ofOrd_len A.tt.1])) (v_cons (e_bm (z := nV ((Kyk.ofOrder q o).filter fun i => placeOf q (Kyk.item q i) == 2).length) e_var (fun H5 e5 => ty_list (SqL.of (e5.k _ _ hp nt_lst))) (a_cons e_c a_nil) ?_) v_nil)))) (by show 4 ≤ 100000; decide)) k2
        rintro _ H5 e5 ⟨_, rfl, rfl⟩ Q5 q5
        refine ⟨p, ((ofOrd f q o).map fun z => placeOf q z.2).map fun n : Nat => (n : Int), 2, rfl, rfl, by rw [map_int]; exact SqL.of (e5.k _ _ hp nt_lst), ?_⟩
        rw [← cnt_places A.tt.1] at q5
        rw [show (2 : Int) = ((2 : Nat) : Int) from rfl, count_ints]
        exact q5
end
end Wash
namespace Wash
open PySem PySem.Spec PyProof.Rows L2
open Kyk (say)
section
variable {P : Program} {w : World} {K : PySem.W.Frag} {mg : Str → Option Value} {base : Heap}
def lateB (y : Kyk.Order) (now : Nat) : Bool := !(y.state == 3 || y.state == 4) && decide (y.due < now)
def spLate : Sp := fun vs H Q _ => ∃ (a : Addr) (y : Kyk.Order) (now : Nat), vs = [.ref a, nV now] ∧ OrdAt H a y ∧ RetV (.bl (lateB y now)) H Q
theorem in34 (s : Nat) : inV (nV s) [.int 3, .int 4] = (s == 3 || s == 4) := by
  simp only [inV, List.any_cons, List.any_nil, eqV, Bool.or_false]
  have z3 : (3 == (s : Int)) = (s == 3) := by
    rw [Bool.eq_iff_iff, beq_iff_eq, beq_iff_eq]
    omega
  have z4 : (4 == (s : Int)) = (s == 4) := by
    rw [Bool.eq_iff_iff, beq_iff_eq, beq_iff_eq]
    omega
  rw [z3, z4]
theorem ok_isLate (T : Txt K mg) : C8.Cal P w K mg base 1 "is_late" spLate [] := by
  have nd := (C8.fnScope_by sc_is_late).nd
  refine mkCal1 T.d_is_late T.m_is_late (fun _ _ _ _ _ _ us hl => match us, hl with | [_, _], _ => rfl) sc_is_late ?len fun cdv A outer s H vs Q E hr h => ⟨_, (pss_one (ps_ret (pe_and (pe_cmpR op_notIn_seq (pe_fld (pv 0) rfl) (pe_tup (pa_cons (C8.pe_gc rfl T.g_GIVEN_OUT) (pa_cons (C8.pe_gc rfl T.g_CALLED_OFF) pa_nil))) (by rfl)) (pe_one (pe_cmpR op_lt (pe_fld (pv 0) rfl) (pv 1) (nomark _)))))), ?body⟩
  case len =>
    rintro vs H Q E ⟨_, _, _, rfl, _⟩
    rfl
  case body =>
    obtain ⟨a, y, now, rfl, O, kk⟩ := h
    refine s_ret (e_is (e_and (a := !(y.state == 3 || y.state == 4)) (b := decide (y.due < now)) (e_is (e_op2 (e_ofld T O e_var T.n_Order_state ordF_state) (n_tup (v_cons e_c (v_cons e_c v_nil)) (by show 2 ≤ 100000; decide)) fun p H3 e3 hp => rv_inT (neg := true) (SqT.of hp) rfl rfl) ?_) fun _ => e_is (e_op (e_ofld T O e_var T.n_Order_due ordF_due) e_var rv_i0) (congrArg V.bl (decide_eq_decide.mpr Int.ofNat_lt))) rfl) kk
    rw [if_pos rfl, in34]
def lateL (q : Kyk.Laundry) : List Nat := (List.range q.orders.length).filter fun o => lateB (Kyk.order q o) q.now
def lateR (q : Kyk.Laundry) : Kyk.Ans := ⟨((lateL q).length : Nat), lateL q⟩
def spTellLate : Sp := fun vs H Q _ => ∃ (f : Hm) (q : Kyk.Laundry) (n : Addr), vs = [.ref f.p, .ref n] ∧ Inp H f q n [] ∧ Done f H Q q (toL (lateR q))
theorem late_len (q : Kyk.Laundry) : (lateL q).length ≤ q.orders.length := Nat.le_trans (List.length_filter_le _ _) (Nat.le_of_eq List.length_range)
theorem ok_tellLate (T : Txt K mg) (c_is_late : C8.Cal P w K mg base 1 "is_late" spLate []) : C8.Cal P w K mg base 2 "tell_late" spTellLate [] ∧ C8.CalAt P w K mg base 2 466 spTellLate := by
  have nd := (C8.fnScope_by sc_tell_late).nd
  refine mkCal T.d_tell_late T.m_tell_late (fun _ _ _ _ _ _ us hl => match us, hl with | [_, _], _ => rfl) sc_tell_late ?len fun cdv A outer s H vs Q E hr h => ⟨_, (pss_cons (ps_setLc (i := 2) (own := [("o", 3), ("found", 4)]) (g := gTup K 2 (gCons (gName 3) (gCons (gName 4) gNil))) (te := (tVar 3)) (tt := (tB (tCall spLate [] C8.E0 (tCons (tVar 4) (tCons (tFld K (tVar 0) "now") tNil))))) rfl nd rfl rfl (sw_true rfl rfl rfl (by decide +kernel)) (pi_enum (by rfl) T.b_enumerate (pa_cons (pe_fld (pv 0) rfl) pa_nil)) (blkOk_by (own := [("o", 3), ("found", 4)]) (N := N_tell_late) (sc := C8.fnScope s_tell_late) (by decide +kernel)) (fun _ _ _ _ _ => (pg_tup (by rfl) (pgs_cons (pg_name (i := 3) nd rfl (Or.inl rfl)) (pgs_cons (pg_name (i := 4) nd rfl (Or.inl rfl)) pgs_nil)))) (fun _ _ _ _ _ => (pts_one (pt_val (C8.pe_c c_is_late hr (by decide) rfl (pa_cons (pv 4) (pa_cons (pe_fld (pv 0) rfl) pa_nil)))))) (fun _ _ _ _ _ => (pv 3)))
      (pss_one (ps_ret (pe_op op_cat (pe_lst (pa_cons (pe_callB call_len_seq (by rfl) T.b_len (by decide +kernel) (pa_cons (pv 2) pa_nil)) pa_nil)) (pv 2))))), ?body⟩
  case len =>
    rintro vs H Q E ⟨_, _, _, rfl, _⟩
    rfl
  case body =>
    obtain ⟨f, q, n, rfl, I, kk⟩ := h
    have A := I.A
    have nor := I.ok.nor
    have ll := late_len q
    unfold lateR at kk
    refine s_asgN (o := .lst ((lateL q).map nV)) ?_ fun p H1 np e1 hp => ?_
    · refine n_lc (List.range q.orders.length) (fun o => lateB (Kyk.order q o) q.now) nV (w_enum (v_cons (e_orders T A e_var) v_nil) (SqL.of A.o)) (by rw [List.length_map, A.ol, List.length_range]) (by rw [List.length_map, A.ol]; omega) fun i j H1 e1 hj => ⟨rfl, ?_, fun _ => ?_⟩
      · obtain ⟨hi, rfl⟩ := List.getElem?_eq_some_iff.mp hj
        rw [List.getElem_range]
        rw [List.length_range] at hi
        obtain ⟨y, hy⟩ := lt_get hi
        obtain ⟨a, ha⟩ := addr_at A.ol hy
        refine t_b (e_call (a_cons (e_var (v := .ref a) (congrArg some (ref_at ha))) (a_cons (e_now T (A.mono e1) e_var) a_nil)) ?_)
        rintro _ H2 e2 ⟨_, rfl, _, rfl, rfl⟩ Q2 q2
        rw [order_get hy] at q2
        exact ⟨a, y, q.now, rfl, (A.oo i a y ha hy).mono (e1.trans e2), q2⟩
      · obtain ⟨hi, rfl⟩ := List.getElem?_eq_some_iff.mp hj
        rw [List.getElem_range]
        exact e_var
    · have k2 := kk.rd A e1
      rw [toL_nat] at k2
      exact s_retN (n_catN (n_lst (v_cons (e_is (e_len e_var (SqL.of hp)) (by rw [List.length_map])) v_nil) (by show 1 ≤ 100000; decide)) e_var hp (by rw [List.length_map]; show 1 + _ ≤ _; omega)) k2
def spTill : Sp := fun vs H Q _ => ∃ (f : Hm) (q : Kyk.Laundry) (n : Addr), vs = [.ref f.p, .ref n] ∧ Inp H f q n [] ∧ Done f H Q q (toL (say (q.till : Nat)))
theorem ok_till (T : Txt K mg) : C8.Cal P w K mg base 1 "tell_till" spTill [] ∧ C8.CalAt P w K mg base 1 473 spTill := by
  have nd := (C8.fnScope_by sc_tell_till).nd
  refine mkCal T.d_tell_till T.m_tell_till (fun _ _ _ _ _ _ us hl => match us, hl with | [_, _], _ => rfl) sc_tell_till ?len fun cdv A outer s H vs Q E hr h => ⟨_, (pss_one (ps_ret (pe_lst (pa_cons (pe_fld (pv 0) rfl) pa_nil)))), ?body⟩
  case len =>
    rintro vs H Q E ⟨_, _, _, rfl, _⟩
    rfl
  case body =>
    obtain ⟨f, q, n, rfl, I, kk⟩ := h
    exact s_say (e_fld e_var I.A.h T.c_House T.n_House_till houF_till) rfl (kk.rd I.A (Xt.refl _))
def allR (q : Kyk.Laundry) : Kyk.Ans := ⟨(q.now : Nat), [q.orders.length, q.items.length, (Kyk.waiting q).length]⟩
def spAll : Sp := fun vs H Q _ => ∃ (f : Hm) (q : Kyk.Laundry) (n : Addr), vs = [.ref f.p, .ref n] ∧ Inp H f q n [] ∧ Done f H Q q (toL (allR q))
theorem n_waiting {σ : L2.St} {H : Hp} {te : TE} {f : Hm} {q : Kyk.Laundry} (A : HousAt H f q) (ok : Ok q) (tb : Tb H) (h : Ev te σ H (.ref f.p)) : EvN (tMeth cHouse "waiting_things" spWaiting [] C8.E0 te tNil) σ H (.lst ((Kyk.waiting q).map nV)) := by
  refine n_meth h A.h (houF_m (by decide +kernel)) a_nil ?_
  rintro _ H2 e2 rfl Q2 q2
  exact ⟨f, q, rfl, A.mono e2, ok, e2.t tb, q2⟩
theorem ok_all (T : Txt K mg) (w_waiting_things : C8.Met P w K mg base 6 cHouse "waiting_things" spWaiting []) : C8.Cal P w K mg base 7 "tell_all" spAll [] ∧ C8.CalAt P w K mg base 7 480 spAll := by
  have nd := (C8.fnScope_by sc_tell_all).nd
  refine mkCal T.d_tell_all T.m_tell_all (fun _ _ _ _ _ _ us hl => match us, hl with | [_, _], _ => rfl) sc_tell_all ?len fun cdv A outer s H vs Q E hr h => ⟨_, (pss_one (ps_ret (pe_lst (pa_cons (pe_fld (pv 0) rfl) (pa_cons (pe_callB call_len_seq (by rfl) T.b_len (by decide +kernel) (pa_cons (pe_fld (pv 0) rfl) pa_nil)) (pa_cons (pe_callB call_len_seq (by rfl) T.b_len (by decide +kernel) (pa_cons (pe_fld (pv 0) rfl) pa_nil)) (pa_cons (pe_callB call_len_seq (by rfl) T.b_len (by decide +kernel) (pa_cons (C8.pe_mt0 w_waiting_things hr (by decide) (pv 0)) pa_nil)) pa_nil))))))), ?body⟩
  case len =>
    rintro vs H Q E ⟨_, _, _, rfl, _⟩
    rfl
  case body =>
    obtain ⟨f, q, n, rfl, I, kk⟩ := h
    have A := I.A
    have k2 := kk.rd A (Xt.refl _)
    unfold allR at k2
    rw [toL_nat] at k2
    exact s_retN (n_lst (v_cons (e_now T A e_var) (v_cons (e_no T A e_var) (v_cons (e_nt T A e_var) (v_cons (e_is (e_lenN (n_waiting A I.ok I.tb e_var)) (by rw [List.length_map])) v_nil)))) (by show 4 ≤ 100000; decide)) k2
/-! a thing added -/
def thgRef (q : Kyk.Laundry) (x : Kyk1.Label) (need colour runs w : Nat) : Int := if inRangeB need colour runs w = false then -22 else if Kyk.canBe q ⟨x, need, colour, runs == 1⟩ w = false then -33 else if q.items.length = 150 then -28 else 0
def spThgRef : Sp := fun vs H Q _ => ∃ (f : Hm) (q : Kyk.Laundry) (a dx : Addr) (o need colour runs w : Nat), vs = [.ref f.p, .ref a] ∧ HousAt H f q ∧ Ok q ∧ ((H a = some (.ins cThing dx (thgF o .non need colour runs w 0)) ∧ RetV (.int (-71)) H Q) ∨
  ∃ lb x, H a = some (.ins cThing dx (thgF o (.ref lb) need colour runs w 0)) ∧ LabAt H lb x ∧ Kyk1.okLabel x = true ∧ RetV (.int (thgRef q x need colour runs w)) H Q)
theorem rng_runs {need colour runs w : Nat} (h : inRangeB need colour runs w = true) : runs ≤ 1 ∧ 1 ≤ w ∧ w ≤ 20000 := by
  unfold inRangeB at h
  simp only [Bool.and_eq_true, Bool.not_eq_true', decide_eq_true_eq, decide_eq_false_iff_not] at h
  omega
theorem load_one {y : Kyk.Item} {d : Nat} : (decide (wsum [y] ≤ d) && Kyk1.together ([y].map (·.x))) = Kyk2.load d [⟨y.x, y.w⟩] := by
  unfold Kyk2.load
  rw [Bool.and_comm]
  congr 1
  refine decide_eq_decide.mpr ?_
  show [y.w].sum ≤ d ↔ 0 + y.w ≤ d
  simp
theorem ok_thgRef (T : Txt K mg) (c_is_in_range : C8.Cal P w K mg base 1 "is_in_range" spInRange []) (c_is_load : C8.Cal P w K mg base 3 "is_load" spLoad []) : C8.Cal P w K mg base 4 "thing_refusal" spThgRef [] := by
  have nd := (C8.fnScope_by sc_thing_refusal).nd
  refine mkCal1 T.d_thing_refusal T.m_thing_refusal (fun _ _ _ _ _ _ us hl => match us, hl with | [_, _], _ => rfl) sc_thing_refusal ?len fun cdv A outer s H vs Q E hr h => ⟨_, (pss_cons (ps_if (pt_cmpR op_isN (pe_fld (pv 1) rfl) pe_non (nomark _)) (pss_one (ps_ret (C8.pe_gc rfl T.g_NO_LABEL))) pss_nil)
      (pss_cons (ps_if (pt_not (pt_val (C8.pe_c c_is_in_range hr (by decide) rfl (pa_cons (pv 1) pa_nil)))) (pss_one (ps_ret (C8.pe_gc rfl T.g_OUT_OF_RANGE))) pss_nil)
      (pss_cons (ps_if (pt_not (pt_val (pe_callB (cr_any rfl) (by rfl) T.b_any (by decide +kernel) (pa_cons (pe_lc (own := [("machine", 2)]) (te := (tCall spLoad [] C8.E0 (tCons (tLst (tCons (tVar 1) tNil)) (tCons (tFld K (tVar 2) "bears") tNil)))) (tt := tYes) rfl nd (pi_list (pe_fld (pv 0) rfl)) (blkOk_by (own := [("machine", 2)]) (N := N_thing_refusal) (sc := C8.fnScope s_thing_refusal) (by decide +kernel)) (fun _ _ _ _ _ => (pg_name (i := 2) nd rfl (Or.inl rfl))) (fun _ _ _ _ _ => pts_nil) (fun _ _ _ _ _ => (C8.pe_c c_is_load hr (by decide) rfl (pa_cons (pe_lst (pa_cons (pv 1) pa_nil)) (pa_cons (pe_fld (pv 2) rfl) pa_nil))))) pa_nil)))) (pss_one (ps_ret (C8.pe_gc rfl T.g_NO_LOAD))) pss_nil)
      (pss_cons (ps_if (pt_cmpR op_eq (pe_callB call_len_seq (by rfl) T.b_len (by decide +kernel) (pa_cons (pe_fld (pv 0) rfl) pa_nil)) (C8.pe_gc rfl T.g_MOST_THINGS) (nomark _)) (pss_one (ps_ret (C8.pe_gc rfl T.g_FULL))) pss_nil)
      (pss_one (ps_ret pe_int)))))), ?body⟩
  case len =>
    rintro vs H Q E ⟨_, _, _, _, _, _, _, _, _, rfl, _⟩
    rfl
  case body =>
    obtain ⟨f, q, a, dx, o, need, colour, runs, w, rfl, A, ok, h⟩ := h
    have nma := ok.nma
    rcases h with ⟨h0, kk⟩ | ⟨lb, x, h0, hl, okx, kk⟩
    · refine s_when (b := true) (t_test (e_op (x := .non) (y := .non) (z := .bl true) (e_fld e_var h0 T.c_Thing T.n_Thing_label thgF_label) e_c fun H8 _ Q q => ⟨rfl, q⟩)) (fun c H1 e1 => s_ret e_c (kk.go e1)) fun c => nomatch c
    · refine s_when (b := false) (t_test (e_op (x := .ref lb) (y := .non) (z := .bl false) (e_fld e_var h0 T.c_Thing T.n_Thing_label thgF_label) e_c fun H8 _ Q q => ⟨rfl, q⟩)) (fun c => nomatch c) fun _ H1 e1 => ?_
      have h1 := e1.k _ _ h0 nt_ins
      unfold thgRef at kk
      refine s_when (t_not (t_b (e_call (v := .bl (inRangeB need colour runs w)) (a_cons e_var a_nil) (by
        rintro _ H2 e2 ⟨_, rfl, rfl⟩ Q2 q2
        exact ⟨a, dx, o, .ref lb, need, colour, runs, w, 0, rfl, e2.k _ _ h1 nt_ins, q2⟩)))) (fun c H2 e2 => ?_) fun c H2 e2 => ?_
      · rw [if_pos (by simpa using c)] at kk
        exact s_ret e_c (kk.go (e1.trans e2))
      · have c : inRangeB need colour runs w = true := by simpa using c
        rw [if_neg (by rw [c]; decide)] at kk
        obtain ⟨r1, _, _⟩ := rng_runs c
        have e12 := e1.trans e2
        have A2 := A.mono e12
        let y : Kyk.Item := ⟨⟨x, need, colour, runs == 1⟩, w, o, 0⟩
        have er : rN (runs == 1) = runs := by
          have : runs = 0 ∨ runs = 1 := by omega
          rcases this with rfl | rfl <;> rfl
        have Y : ThgAt H2 a y := ⟨dx, lb, by
          rw [e12.k _ _ h0 nt_ins]
          show some (HO.ins cThing dx (thgF o (.ref lb) need colour runs w 0)) = some (HO.ins cThing dx (thgF o (.ref lb) need colour (rN (runs == 1)) w 0))
          rw [er], hl.mono e12⟩
        refine s_when (b := !(Kyk.canBe q ⟨x, need, colour, runs == 1⟩ w)) (t_not (t_b (e_is (e_anyN (l := q.machines.map fun m => Kyk2.load m.bears [⟨y.x, y.w⟩]) ?_) (by rw [List.any_map] <;> rfl)))) (fun c2 H3 e3 => ?_) fun c2 H3 e3 => ?_
        · rw [List.map_map]
          refine n_map q.machines _ (w_list (e_machines T A2 e_var) (SqL.of A2.m)) (by rw [List.length_map, A.ml]) (by rw [List.length_map, A.ml]; omega) fun i m H3 e3 hm => ⟨rfl, ?_⟩
          obtain ⟨b, hb⟩ := addr_at A.ml hm
          obtain ⟨l, hl2⟩ := addr_at A.ll hm
          refine e_call (v := .bl (Kyk2.load m.bears [⟨y.x, y.w⟩])) (a_consN nt_lst (n_lst (v_cons e_var v_nil) (by show 1 ≤ 100000; decide)) (a_cons (e_mfld T ((A2.mm i b l m hb hl2 hm).mono e3) (e_var (v := .ref b) (congrArg some (ref_at hb))) T.n_Machine_bears fun _ => macF_bears) a_nil)) ?_
          rintro _ H4 e4 ⟨p, _, rfl, np, hp, _, rfl, rfl⟩ Q4 q4
          refine ⟨p, [a], [y], m.bears, rfl, hp, things1 (Y.mono (e3.trans e4)), by simp, by simp, fun z hz => ?_, ?_⟩
          · have : z = y := by simpa using hz
            rw [this]
            exact okx
          · rw [load_one]
            exact q4
        · rw [if_pos (by simpa using c2)] at kk
          exact s_ret e_c (kk.go (e12.trans e3))
        · have c2 : Kyk.canBe q ⟨x, need, colour, runs == 1⟩ w = true := by simpa using c2
          rw [if_neg (by rw [c2]; decide)] at kk
          refine s_when (t_eqn (n := 150) (e_nt T (A2.mono e3) e_var) e_c) (fun c3 H4 e4 => ?_) fun c3 H4 e4 => ?_
          · rw [if_pos (by simpa using c3)] at kk
            exact s_ret e_c (kk.go (e12.trans (e3.trans e4)))
          · rw [if_neg (by simpa using c3)] at kk
            exact s_ret e_c (kk.go (e12.trans (e3.trans e4)))
end
end Wash
namespace Wash
open PySem PySem.Spec PyProof.Rows L2
open Kyk (say)
section
variable {K : PySem.W.Frag} {σ : L2.St} {H : Hp} {te ta : TE} {D : Ends} {tz : TS}
theorem a_consR {post : Addr → Hp → Prop} {tr : TA} {R : List V → Hp → Prop} (mono : ∀ p H1 H2, Xt H1 H2 → post p H1 → post p H2) (h : EvR ta σ H post) (hr : EvA tr σ H R) : EvA (tCons ta tr) σ H (fun vs H2 => ∃ p r, vs = .ref p :: r ∧ post p H2 ∧ R r H2) := fun H1 e _ q =>
  h H1 e _ fun p H2 f e2 hp => hr H2 (e.trans e2) _ fun vs H3 e3 k => q _ H3 (e2.trans e3) ⟨p, vs, rfl, mono _ _ _ e3 hp, k⟩
theorem s_unl6 {n : Addr} {x0 x1 x2 x3 x4 x5 : V} {i0 i1 i2 i3 i4 i5 : Nat} (h : Ev te σ H (.ref n)) (hn : H n = some (.lst [x0, x1, x2, x3, x4, x5])) (k : ∀ H1, Xt H H1 → tz D ((((((σ.set i0 (some x0)).set i1 (some x1)).set i2 (some x2)).set i3 (some x3)).set i4 (some x4)).set i5 (some x5)) H1) :
    tSeq (tAsg te (gUnl K 6 (gCons (gName i0) (gCons (gName i1) (gCons (gName i2) (gCons (gName i3) (gCons (gName i4) (gCons (gName i5) gNil)))))))) tz D σ H :=
  h H (Xt.refl H) _ fun H1 e1 => ⟨n, _, rfl, SqL.of (e1.k _ _ hn nt_lst), rfl, x0, _, rfl, x1, _, rfl, x2, _, rfl, x3, _, rfl, x4, _, rfl, x5, [], rfl, rfl, k H1 e1⟩
end
section
variable {P : Program} {w : World} {K : PySem.W.Frag} {mg : Str → Option Value} {base : Heap}
def addQ (q : Kyk.Laundry) (o need colour runs w : Nat) (t : List Nat) : Kyk.Laundry × Kyk.Ans := if stRef q o [0] < 0 then (q, say (stRef q o [0])) else match Kyk1.read t with
  | none => (q, say (-71))
  | some x => if thgRef q x need colour runs w < 0 then (q, say (thgRef q x need colour runs w)) else ({ q with items := q.items ++ [⟨⟨x, need, colour, runs == 1⟩, w, o, 0⟩] }, say (q.items.length : Nat))
theorem thgRef_ok {q : Kyk.Laundry} {x : Kyk1.Label} {need colour runs w : Nat} (h : ¬ thgRef q x need colour runs w < 0) : inRangeB need colour runs w = true ∧ Kyk.canBe q ⟨x, need, colour, runs == 1⟩ w = true ∧ q.items.length ≠ 150 := by
  unfold thgRef at h
  cases c1 : inRangeB need colour runs w with
  | false =>
    rw [c1, if_pos rfl] at h
    exact absurd (by decide) h
  | true =>
    rw [c1, if_neg (by decide)] at h
    cases c2 : Kyk.canBe q ⟨x, need, colour, runs == 1⟩ w with
    | false =>
      rw [c2, if_pos rfl] at h
      exact absurd (by decide) h
    | true =>
      rw [c2, if_neg (by decide)] at h
      refine ⟨rfl, rfl, fun z => ?_⟩
      rw [if_pos z] at h
      exact absurd (by decide) h
def spAdd : Sp := fun vs H Q _ => ∃ (f : Hm) (q : Kyk.Laundry) (n r : Addr) (o need colour runs w : Nat) (t : List Nat), vs = [.ref f.p, .ref n] ∧ Inp H f q n [nV o, nV need, nV colour, nV runs, nV w, .ref r] ∧ H r = some (.lst (t.map nV)) ∧ (∀ n ∈ t, n < 256) ∧ t.length ≤ 200 ∧ Done f H Q (addQ q o need colour runs w t).1 (toL (addQ q o need colour runs w t).2)
theorem ok_add (T : Txt K mg) (c_state_refusal : C8.Cal P w K mg base 1 "state_refusal" spStRef []) (c_read_label : C8.Cal P w K mg base 3 "read_label" spRead []) (m_Thing : C8.Mak P w K mg base 1 "Thing" cThing spThingI []) (c_thing_refusal : C8.Cal P w K mg base 4 "thing_refusal" spThgRef []) : C8.Cal P w K mg base 5 "add" spAdd [] ∧ C8.CalAt P w K mg base 5 418 spAdd := by
  have nd := (C8.fnScope_by sc_add).nd
  refine mkCal T.d_add T.m_add (fun _ _ _ _ _ _ us hl => match us, hl with | [_, _], _ => rfl) sc_add ?len fun cdv A outer s H vs Q E hr h => ⟨_, (pss_cons (ps_asg (pv 1) (pg_unl rfl (pgs_cons (pg_name (i := 2) nd rfl (Or.inl rfl)) (pgs_cons (pg_name (i := 3) nd rfl (Or.inl rfl)) (pgs_cons (pg_name (i := 4) nd rfl (Or.inl rfl)) (pgs_cons (pg_name (i := 5) nd rfl (Or.inl rfl)) (pgs_cons (pg_name (i := 6) nd rfl (Or.inl rfl)) (pgs_cons (pg_name (i := 7) nd rfl (Or.inl rfl)) pgs_nil))))))))
      (pss_cons (ps_set (i := 8) nd rfl (Or.inl rfl) (C8.pe_c c_state_refusal hr (by decide) rfl (pa_cons (pv 0) (pa_cons (pv 2) (pa_cons (pe_lst (pa_cons (C8.pe_gc rfl T.g_STILL_OPEN) pa_nil)) pa_nil)))))
      (pss_cons (ps_if (pt_cmpR op_lt (pv 8) pe_int (nomark _)) (pss_one (ps_ret (pe_lst (pa_cons (pv 8) pa_nil)))) pss_nil)
      (pss_cons (ps_set (i := 9) nd rfl (Or.inl rfl) (C8.pe_mk m_Thing hr (by decide) rfl (pa_cons (pv 2) (pa_cons (C8.pe_c c_read_label hr (by decide) rfl (pa_cons (pv 7) pa_nil)) (pa_cons (pv 3) (pa_cons (pv 4) (pa_cons (pv 5) (pa_cons (pv 6) pa_nil))))))))
      (pss_cons (ps_set (i := 8) nd rfl (Or.inl rfl) (C8.pe_c c_thing_refusal hr (by decide) rfl (pa_cons (pv 0) (pa_cons (pv 9) pa_nil))))
      (pss_cons (ps_if (pt_cmpR op_lt (pv 8) pe_int (nomark _)) (pss_one (ps_ret (pe_lst (pa_cons (pv 8) pa_nil)))) pss_nil)
      (pss_cons (ps_expr (pe_bm PySem.F.plainAttrs_list PySem.F.slot_list_append PySem.F.type_list_append mt_append (pe_fld (pv 0) rfl) (pa_cons (pv 9) pa_nil)))
      (pss_one (ps_ret (pe_lst (pa_cons (pe_op op_sub (pe_callB call_len_seq (by rfl) T.b_len (by decide +kernel) (pa_cons (pe_fld (pv 0) rfl) pa_nil)) pe_int) pa_nil))))))))))), ?body⟩
  case len =>
    rintro vs H Q E ⟨_, _, _, _, _, _, _, _, _, _, rfl, _⟩
    rfl
  case body =>
    obtain ⟨f, q, n, r, o, need, colour, runs, w, t, rfl, I, hr0, ht1, ht2, kk⟩ := h
    have A := I.A
    have nit := I.ok.nit
    unfold addQ at kk
    refine s_unl6 e_var I.nn fun H1 e1 => ?_
    refine s_asg (v := .int (stRef q o [0])) (e_stRef (A.mono e1) e_var e_var (n_lst (v_cons e_c v_nil) (by show 1 ≤ 100000; decide))) fun H2 e2 => ?_
    refine s_when (b := decide (stRef q o [0] < 0)) (t_test (e_op e_var e_c rv_i0)) (fun c H3 e3 => ?_) fun c H3 e3 => ?_
    · rw [if_pos (by simpa using c)] at kk
      exact s_say e_var rfl (kk.rd A (e1.trans (e2.trans e3)))
    · have c : ¬ stRef q o [0] < 0 := by simpa using c
      rw [if_neg c] at kk
      obtain ⟨_, yo, hyo, _⟩ := stRef_neg c
      have e13 := e1.trans (e2.trans e3)
      have A3 := A.mono e13
      cases hx : Kyk1.read t with
      | none =>
        rw [hx] at kk
        dsimp only at kk
        refine s_asgM (C := cThing) (fs := thgF o .non need colour runs w 0) (m_make (a_cons e_var (a_cons (x := .non) (e_call (a_cons e_var a_nil) ?_) (a_cons e_var (a_cons e_var (a_cons e_var (a_cons e_var a_nil)))))) ?_) fun p dx H4 np e4 hp => ?_
        · rintro _ H5 e5 ⟨_, rfl, rfl⟩ Q5 q5
          exact ⟨r, t, rfl, (e13.trans e5).k _ _ hr0 nt_lst, ht1, ht2, fun _ => q5, fun x h => by rw [hx] at h; cases h⟩
        · rintro _ H5 e5 ⟨_, rfl, _, rfl, _, rfl, _, rfl, _, rfl, _, rfl, rfl⟩ p H6 Q6 e6 fill
          exact ⟨o, need, colour, runs, w, .non, fill⟩
        · refine s_asg (v := .int (-71)) (e_call (a_cons e_var (a_cons e_var a_nil)) ?_) fun H5 e5 => ?_
          · rintro _ H6 e6 ⟨_, rfl, _, rfl, rfl⟩ Q6 q6
            exact ⟨f, q, p, dx, o, need, colour, runs, w, rfl, A3.mono (e4.trans e6), I.ok, .inl ⟨e6.k _ _ hp nt_ins, q6⟩⟩
          · refine s_when (b := true) (t_test (e_op e_var e_c rv_i0)) (fun _ H6 e6 => ?_) fun c => nomatch c
            exact s_say e_var rfl (kk.rd A (e13.trans (e4.trans (e5.trans e6))))
      | some x =>
        rw [hx] at kk
        dsimp only at kk
        have okx := (told_read hx).1
        have labM : ∀ p H1 H2, Xt H1 H2 → LabAt H1 p x → LabAt H2 p x := fun p H1 H2 e h => h.mono e
        refine s_asgR (post := fun p H => ∃ dx lb, H p = some (.ins cThing dx (thgF o (.ref lb) need colour runs w 0)) ∧ LabAt H lb x) (r_make (a_cons e_var (a_consR (post := fun p H => LabAt H p x) labM ?_ (a_cons e_var (a_cons e_var (a_cons e_var (a_cons e_var a_nil)))))) ?_) fun p H4 np e4 hp => ?_
        · intro H5 e5 Q5 q5
          refine (a_cons (x := .ref r) e_var a_nil) H5 (Xt.refl _) _ fun vs H6 e6 hv => ?_
          obtain ⟨_, rfl, rfl⟩ := hv
          rw [List.append_nil]
          exact ⟨r, t, rfl, (e13.trans (e5.trans e6)).k _ _ hr0 nt_lst, ht1, ht2, fun h => (by rw [hx] at h; cases h), fun x' h' p7 H7 n7 e7 l7 => by
            rw [hx] at h'
            cases h'
            exact q5 p7 H7 (.back e6 n7) (e6.trans e7) l7⟩
        · rintro _ H5 e5 ⟨_, rfl, lb, _, rfl, hl, _, rfl, _, rfl, _, rfl, _, rfl, rfl⟩ p dx H6 Q6 np6 e6 hp6 fin6
          refine ⟨o, need, colour, runs, w, .ref lb, p, dx, rfl, hp6, fun H7 b7 h7 => fin6 H7 b7 ⟨dx, lb, h7, ?_⟩⟩
          obtain ⟨dl, el⟩ := hl.mono e6
          exact ⟨dl, b7.k _ _ (ne_ins el hp6 (by decide)) el nt_ins⟩
        · obtain ⟨dx, lb, hp, hl⟩ := hp
          refine s_asg (v := .int (thgRef q x need colour runs w)) (e_call (a_cons e_var (a_cons e_var a_nil)) ?_) fun H5 e5 => ?_
          · rintro _ H6 e6 ⟨_, rfl, _, rfl, rfl⟩ Q6 q6
            exact ⟨f, q, p, dx, o, need, colour, runs, w, rfl, A3.mono (e4.trans e6), I.ok, .inr ⟨lb, x, e6.k _ _ hp nt_ins, hl.mono e6, okx, q6⟩⟩
          · have e15 := e13.trans (e4.trans e5)
            refine s_when (b := decide (thgRef q x need colour runs w < 0)) (t_test (e_op e_var e_c rv_i0)) (fun c2 H6 e6 => ?_) fun c2 H6 e6 => ?_
            · rw [if_pos (by simpa using c2)] at kk
              exact s_say e_var rfl (kk.rd A (e15.trans e6))
            · have c2 : ¬ thgRef q x need colour runs w < 0 := by simpa using c2
              rw [if_neg c2] at kk
              obtain ⟨g1, g2, g3⟩ := thgRef_ok c2
              obtain ⟨r1, _, _⟩ := rng_runs g1
              have er : rN (runs == 1) = runs := by
                have : runs = 0 ∨ runs = 1 := by omega
                rcases this with rfl | rfl <;> rfl
              have A6 := A.mono (e15.trans e6)
              have hp6 := (e5.trans e6).k _ _ hp nt_ins
              show (tBM K "list" rAppend (tFld K (tVar 0) "things") (tCons (tVar 9) tNil)) _ _ _
              refine d_bm (e_things T A6 e_var) (fun H7 e7 => .inl ⟨rfl, _, SqL.of (A6.mono e7).t⟩) fun H7 e7 => ?_
              refine (a_cons (x := .ref p) (e_var (i := 9) rfl) a_nil) H7 (Xt.refl _) _ fun vs H8 e8 hv => ?_
              obtain ⟨_, rfl, rfl⟩ := hv
              have e78 := e7.trans e8
              have A8 := A6.mono e78
              have b9 : Xb f.t H8 (upd H8 f.t (.lst (f.ts.map V.ref ++ [.ref p]))) := Xb.upd A8.t nt_lst nl
              have h9 : (upd H8 f.t (.lst (f.ts.map V.ref ++ [.ref p]))) f.t = some (.lst ((f.ts ++ [p]).map V.ref)) := by
                rw [upd_same, List.map_append]
                rfl
              refine ⟨f.t, _, .ref p, rfl, rfl, A8.t, szlt (by rw [List.length_map, A.tt.1]; omega), ?_⟩
              generalize upd H8 f.t (.lst (f.ts.map V.ref ++ [.ref p])) = H9 at b9 h9
              have Y : ThgAt H8 p ⟨⟨x, need, colour, runs == 1⟩, w, o, 0⟩ := ⟨dx, lb, by
                rw [e78.k _ _ hp6 nt_ins]
                show some (HO.ins cThing dx (thgF o (.ref lb) need colour runs w 0)) = some (HO.ins cThing dx (thgF o (.ref lb) need colour (rN (runs == 1)) w 0))
                rw [er], (hl.mono (e5.trans e6)).mono e78⟩
              have A9 := A8.addT (a := p) b9 h9 Y fun z => by
                obtain ⟨i, hi⟩ := List.mem_iff_getElem?.mp z
                obtain ⟨y, hy⟩ := lt_get (l := q.items) (i := i) (by rw [← A.tt.1]; exact (List.getElem?_eq_some_iff.mp hi).1)
                obtain ⟨dx2, l2, ho, _⟩ := A3.tt.2 i p y hi hy
                exact np _ ho nt_ins
              have k9 : Kp f { f with ts := f.ts ++ [p] } H H9 := ((Kp.of (f := f) (e15.trans (e6.trans e78))).trans (Kp.list A8.t (by simp [Foot]) b9)).foot rfl
              refine s_say (σ := [some (.ref f.p)]) (D := { nx := fun _ H' => Q .non H', rt := Q }) (z := ((q.items.length : Nat) : Int)) (e_is (e_op (e_nt T A9 (e_var (i := 0) (v := .ref f.p) rfl)) e_c rv_i0) ?_) rfl (kk.at_ (f1 := { f with ts := f.ts ++ [p] }) rfl k9 A9)
              show V.int _ = V.int _
              congr 1
              show (((q.items ++ [(⟨⟨x, need, colour, runs == 1⟩, w, o, 0⟩ : Kyk.Item)]).length : Nat) : Int) - 1 = _
              rw [List.length_append]
              show ((_ + 1 : Nat) : Int) - 1 = _
              omega
end
end Wash
/-! The calls about things. -/
namespace Wash
open PySem PySem.Spec PyProof.Rows L2
open Kyk (say)
theorem cut_from (xs : List V) (n : Nat) (h : n ≤ xs.length) : cutV xs (some (n : Int)) none = xs.drop n := by
  unfold cutV
  rw [HT.sIx_nat, HT.sIx_none, Nat.min_eq_left h]
  rw [List.take_of_length_le (by rw [List.length_drop]; omega)]
section
variable {P : Program} {w : World} {K : PySem.W.Frag} {mg : Str → Option Value} {base : Heap}
theorem thg_of {H : Hp} {f : Hm} {q : Kyk.Laundry} (A : HousAt H f q) {i : Nat} (hi : ¬ q.items.length ≤ i) : ∃ y a, q.items[i]? = some y ∧ f.ts[i]? = some a ∧ ThgAt H a y ∧ Kyk.item q i = y := by
  obtain ⟨y, hy⟩ := lt_get (l := q.items) (i := i) (by omega)
  obtain ⟨a, ha⟩ := addr_at A.tt.1 hy
  exact ⟨y, a, hy, ha, A.tt.2 i a y ha hy, item_get hy⟩
def whereR (q : Kyk.Laundry) (i : Nat) : Kyk.Ans := if q.items.length ≤ i then say (-2) else ⟨(placeOf q (Kyk.item q i) : Nat), [(Kyk.item q i).order]⟩
def spWhere : Sp := fun vs H Q _ => ∃ (f : Hm) (q : Kyk.Laundry) (n : Addr) (i : Nat), vs = [.ref f.p, .ref n] ∧ Inp H f q n [nV i] ∧ Done f H Q q (toL (whereR q i))
theorem ok_where (T : Txt K mg) (w_place_of : C8.Met P w K mg base 1 cHouse "place_of" spPlace []) : C8.Cal P w K mg base 2 "tell_where" spWhere [] ∧ C8.CalAt P w K mg base 2 502 spWhere := by
  have nd := (C8.fnScope_by sc_tell_where).nd
  refine mkCal T.d_tell_where T.m_tell_where (fun _ _ _ _ _ _ us hl => match us, hl with | [_, _], _ => rfl) sc_tell_where ?len fun cdv A outer s H vs Q E hr h => ⟨_, (pss_cons (ps_set (i := 2) nd rfl (Or.inl rfl) (pe_ix ix_list (pv 1) pe_int (fun _ _ => rfl)))
      (pss_cons (ps_if (pt_cmpR op_ge (pv 2) (pe_callB call_len_seq (by rfl) T.b_len (by decide +kernel) (pa_cons (pe_fld (pv 0) rfl) pa_nil)) (nomark _)) (pss_one (ps_ret (pe_lst (pa_cons (C8.pe_gc rfl T.g_NOT_THERE) pa_nil)))) pss_nil)
      (pss_cons (ps_set (i := 3) nd rfl (Or.inl rfl) (pe_ix ix_list (pe_fld (pv 0) rfl) (pv 2) (fun _ _ => rfl)))
      (pss_one (ps_ret (pe_lst (pa_cons (C8.pe_mt w_place_of hr (by decide) (pv 0) (pa_cons (pv 3) pa_nil)) (pa_cons (pe_fld (pv 3) rfl) pa_nil)))))))), ?body⟩
  case len =>
    rintro vs H Q E ⟨_, _, _, _, rfl, _⟩
    rfl
  case body =>
    obtain ⟨f, q, n, i, rfl, I, kk⟩ := h
    have A := I.A
    unfold whereR at kk
    refine s_asg (v := nV i) (e_arg (i := 0) I e_var e_c rfl) fun H1 e1 => ?_
    refine s_when (t_ge e_var (e_nt T (A.mono e1) e_var)) (fun c H2 e2 => ?_) fun c H2 e2 => ?_
    · rw [if_pos (by simpa using c)] at kk
      exact s_say e_c rfl (kk.rd A (e1.trans e2))
    · have c : ¬ q.items.length ≤ i := by simpa using c
      rw [if_neg c] at kk
      have e12 := e1.trans e2
      obtain ⟨y, a, hy, ha, Y, ey⟩ := thg_of (A.mono e12) c
      rw [ey] at kk
      refine s_asg (v := .ref a) (e_thing T (A.mono e12) e_var e_var ha) fun H3 e3 => ?_
      have k2 := kk.rd A (e12.trans e3)
      rw [toL_nat] at k2
      refine s_retN (n_lst (v_cons (e_meth e_var (A.mono (e12.trans e3)).h (houF_m (by decide +kernel)) (a_cons e_var a_nil) ?_) (v_cons (e_tfld T (Y.mono e3) e_var T.n_Thing_order fun _ => thgF_order) v_nil)) (by show 2 ≤ 100000; decide)) k2
      rintro _ H4 e4 ⟨_, rfl, rfl⟩ Q4 q4
      exact ⟨f, q, a, y, rfl, A.mono ((e12.trans e3).trans e4), Y.mono (e3.trans e4), I.ok.ord y (List.mem_of_getElem? hy), q4⟩
def labelR (q : Kyk.Laundry) (i : Nat) : Kyk.Ans := if q.items.length ≤ i then say (-2) else ⟨((Kyk1.told (Kyk.item q i).x.label).length : Nat), Kyk1.told (Kyk.item q i).x.label⟩
def spTellLabel : Sp := fun vs H Q _ => ∃ (f : Hm) (q : Kyk.Laundry) (n : Addr) (i : Nat), vs = [.ref f.p, .ref n] ∧ Inp H f q n [nV i] ∧ Done f H Q q (toL (labelR q i))
theorem ok_tellLabel (T : Txt K mg) (c_signs_of : C8.Cal P w K mg base 1 "signs_of" spSigns []) : C8.Cal P w K mg base 2 "tell_label" spTellLabel [] ∧ C8.CalAt P w K mg base 2 509 spTellLabel := by
  have nd := (C8.fnScope_by sc_tell_label).nd
  refine mkCal T.d_tell_label T.m_tell_label (fun _ _ _ _ _ _ us hl => match us, hl with | [_, _], _ => rfl) sc_tell_label ?len fun cdv A outer s H vs Q E hr h => ⟨_, (pss_cons (ps_set (i := 2) nd rfl (Or.inl rfl) (pe_ix ix_list (pv 1) pe_int (fun _ _ => rfl)))
      (pss_cons (ps_if (pt_cmpR op_ge (pv 2) (pe_callB call_len_seq (by rfl) T.b_len (by decide +kernel) (pa_cons (pe_fld (pv 0) rfl) pa_nil)) (nomark _)) (pss_one (ps_ret (pe_lst (pa_cons (C8.pe_gc rfl T.g_NOT_THERE) pa_nil)))) pss_nil)
      (pss_cons (ps_set (i := 3) nd rfl (Or.inl rfl) (C8.pe_c c_signs_of hr (by decide) rfl (pa_cons (pe_fld (pe_ix ix_list (pe_fld (pv 0) rfl) (pv 2) (fun _ _ => rfl)) rfl) pa_nil)))
      (pss_one (ps_ret (pe_op op_cat (pe_lst (pa_cons (pe_callB call_len_seq (by rfl) T.b_len (by decide +kernel) (pa_cons (pv 3) pa_nil)) pa_nil)) (pv 3))))))), ?body⟩
  case len =>
    rintro vs H Q E ⟨_, _, _, _, rfl, _⟩
    rfl
  case body =>
    obtain ⟨f, q, n, i, rfl, I, kk⟩ := h
    have A := I.A
    unfold labelR at kk
    refine s_asg (v := nV i) (e_arg (i := 0) I e_var e_c rfl) fun H1 e1 => ?_
    refine s_when (t_ge e_var (e_nt T (A.mono e1) e_var)) (fun c H2 e2 => ?_) fun c H2 e2 => ?_
    · rw [if_pos (by simpa using c)] at kk
      exact s_say e_c rfl (kk.rd A (e1.trans e2))
    · have c : ¬ q.items.length ≤ i := by simpa using c
      rw [if_neg c] at kk
      have e12 := e1.trans e2
      obtain ⟨y, a, hy, ha, Y, ey⟩ := thg_of (A.mono e12) c
      rw [ey] at kk
      have oky := I.ok.lab y (List.mem_of_getElem? hy)
      obtain ⟨dx, lb, h0, hl⟩ := id Y
      refine s_asgN (o := .lst ((Kyk1.told y.x.label).map nV)) (n_call (a_cons (e_fld (e_thing T (A.mono e12) e_var e_var ha) h0 T.c_Thing T.n_Thing_label thgF_label) a_nil) ?_) fun p H3 np e3 hp => ?_
      · rintro _ H4 e4 ⟨_, rfl, rfl⟩ Q4 q4
        exact ⟨lb, y.x.label, rfl, LabAt.mono e4 hl, oky, q4⟩
      · have k2 := kk.rd A (e12.trans e3)
        rw [toL_nat] at k2
        obtain ⟨_, g, _⟩ := ok_parts oky
        have := (told_facts oky).1
        exact s_retN (n_catN (n_lst (v_cons (e_is (e_len e_var (SqL.of hp)) (by rw [List.length_map])) v_nil) (by show 1 ≤ 100000; decide)) e_var hp (by rw [List.length_map]; show 1 + _ ≤ _; omega)) k2
def thingR (q : Kyk.Laundry) (i : Nat) : Kyk.Ans := if q.items.length ≤ i then say (-2) else ⟨((Kyk.item q i).w : Nat), [(Kyk.item q i).x.need, (Kyk.item q i).x.colour, rN (Kyk.item q i).x.runs]⟩
def spTellThing : Sp := fun vs H Q _ => ∃ (f : Hm) (q : Kyk.Laundry) (n : Addr) (i : Nat), vs = [.ref f.p, .ref n] ∧ Inp H f q n [nV i] ∧ Done f H Q q (toL (thingR q i))
theorem ok_tellThing (T : Txt K mg) : C8.Cal P w K mg base 1 "tell_thing" spTellThing [] ∧ C8.CalAt P w K mg base 1 516 spTellThing := by
  have nd := (C8.fnScope_by sc_tell_thing).nd
  refine mkCal T.d_tell_thing T.m_tell_thing (fun _ _ _ _ _ _ us hl => match us, hl with | [_, _], _ => rfl) sc_tell_thing ?len fun cdv A outer s H vs Q E hr h => ⟨_, (pss_cons (ps_set (i := 2) nd rfl (Or.inl rfl) (pe_ix ix_list (pv 1) pe_int (fun _ _ => rfl)))
      (pss_cons (ps_if (pt_cmpR op_ge (pv 2) (pe_callB call_len_seq (by rfl) T.b_len (by decide +kernel) (pa_cons (pe_fld (pv 0) rfl) pa_nil)) (nomark _)) (pss_one (ps_ret (pe_lst (pa_cons (C8.pe_gc rfl T.g_NOT_THERE) pa_nil)))) pss_nil)
      (pss_cons (ps_set (i := 3) nd rfl (Or.inl rfl) (pe_ix ix_list (pe_fld (pv 0) rfl) (pv 2) (fun _ _ => rfl)))
      (pss_one (ps_ret (pe_lst (pa_cons (pe_fld (pv 3) rfl) (pa_cons (pe_fld (pv 3) rfl) (pa_cons (pe_fld (pv 3) rfl) (pa_cons (pe_fld (pv 3) rfl) pa_nil)))))))))), ?body⟩
  case len =>
    rintro vs H Q E ⟨_, _, _, _, rfl, _⟩
    rfl
  case body =>
    obtain ⟨f, q, n, i, rfl, I, kk⟩ := h
    have A := I.A
    unfold thingR at kk
    refine s_asg (v := nV i) (e_arg (i := 0) I e_var e_c rfl) fun H1 e1 => ?_
    refine s_when (t_ge e_var (e_nt T (A.mono e1) e_var)) (fun c H2 e2 => ?_) fun c H2 e2 => ?_
    · rw [if_pos (by simpa using c)] at kk
      exact s_say e_c rfl (kk.rd A (e1.trans e2))
    · have c : ¬ q.items.length ≤ i := by simpa using c
      rw [if_neg c] at kk
      have e12 := e1.trans e2
      obtain ⟨y, a, hy, ha, Y, ey⟩ := thg_of (A.mono e12) c
      rw [ey] at kk
      refine s_asg (v := .ref a) (e_thing T (A.mono e12) e_var e_var ha) fun H3 e3 => ?_
      have k2 := kk.rd A (e12.trans e3)
      rw [toL_nat] at k2
      have Y3 := Y.mono e3
      exact s_retN (n_lst (v_cons (e_tfld T Y3 e_var T.n_Thing_weight fun _ => thgF_weight) (v_cons (e_tfld T Y3 e_var T.n_Thing_need fun _ => thgF_need) (v_cons (e_tfld T Y3 e_var T.n_Thing_colour fun _ => thgF_colour) (v_cons (e_tfld T Y3 e_var T.n_Thing_runs fun _ => thgF_runs) v_nil)))) (by show 4 ≤ 100000; decide)) k2
def waitR (q : Kyk.Laundry) : Kyk.Ans := ⟨((Kyk.waiting q).length : Nat), Kyk.waiting q⟩
def spTellWait : Sp := fun vs H Q _ => ∃ (f : Hm) (q : Kyk.Laundry) (n : Addr), vs = [.ref f.p, .ref n] ∧ Inp H f q n [] ∧ Done f H Q q (toL (waitR q))
theorem ok_tellWait (T : Txt K mg) (w_waiting_things : C8.Met P w K mg base 6 cHouse "waiting_things" spWaiting []) : C8.Cal P w K mg base 7 "tell_waiting" spTellWait [] ∧ C8.CalAt P w K mg base 7 535 spTellWait := by
  have nd := (C8.fnScope_by sc_tell_waiting).nd
  refine mkCal T.d_tell_waiting T.m_tell_waiting (fun _ _ _ _ _ _ us hl => match us, hl with | [_, _], _ => rfl) sc_tell_waiting ?len fun cdv A outer s H vs Q E hr h => ⟨_, (pss_cons (ps_set (i := 2) nd rfl (Or.inl rfl) (C8.pe_mt0 w_waiting_things hr (by decide) (pv 0)))
      (pss_one (ps_ret (pe_op op_cat (pe_lst (pa_cons (pe_callB call_len_seq (by rfl) T.b_len (by decide +kernel) (pa_cons (pv 2) pa_nil)) pa_nil)) (pv 2))))), ?body⟩
  case len =>
    rintro vs H Q E ⟨_, _, _, rfl, _⟩
    rfl
  case body =>
    obtain ⟨f, q, n, rfl, I, kk⟩ := h
    have A := I.A
    have wl := waiting_len q
    have nit := I.ok.nit
    refine s_asgN (n_waiting A I.ok I.tb e_var) fun p H1 np e1 hp => ?_
    have k2 := kk.rd A e1
    unfold waitR at k2
    rw [toL_nat] at k2
    exact s_retN (n_catN (n_lst (v_cons (e_is (e_len e_var (SqL.of hp)) (by rw [List.length_map])) v_nil) (by show 1 ≤ 100000; decide)) e_var hp (by rw [List.length_map]; show 1 + _ ≤ _; omega)) k2
/-! two that may not go together -/
def apB (q : Kyk.Laundry) (i j : Nat) : Bool := !(Kyk1.together [(Kyk.item q i).x, (Kyk.item q j).x])
def spApart : Sp := fun vs H Q _ => ∃ (f : Hm) (q : Kyk.Laundry) (i j : Nat), vs = [.ref f.p, nV i, nV j] ∧ HousAt H f q ∧ Ok q ∧ i < q.items.length ∧ j < q.items.length ∧ RetV (.bl (apB q i j)) H Q
theorem ok_areApart (T : Txt K mg) (c_go_together : C8.Cal P w K mg base 2 "go_together" spTog []) : C8.Cal P w K mg base 3 "are_apart" spApart [] := by
  have nd := (C8.fnScope_by sc_are_apart).nd
  refine mkCal1 T.d_are_apart T.m_are_apart (fun _ _ _ _ _ _ us hl => match us, hl with | [_, _, _], _ => rfl) sc_are_apart ?len fun cdv A outer s H vs Q E hr h => ⟨_, (pss_one (ps_ret (pe_not (C8.pe_c c_go_together hr (by decide) rfl (pa_cons (pe_lst (pa_cons (pe_ix ix_list (pe_fld (pv 0) rfl) (pv 1) (fun _ _ => rfl)) (pa_cons (pe_ix ix_list (pe_fld (pv 0) rfl) (pv 2) (fun _ _ => rfl)) pa_nil))) pa_nil))))), ?body⟩
  case len =>
    rintro vs H Q E ⟨_, _, _, _, rfl, _⟩
    rfl
  case body =>
    obtain ⟨f, q, i, j, rfl, A, ok, hi, hj, kk⟩ := h
    obtain ⟨y, a, hy, ha, Y, ey⟩ := thg_of A (i := i) (by omega)
    obtain ⟨z, b, hz, hb, Z, ez⟩ := thg_of A (i := j) (by omega)
    unfold apB at kk
    rw [ey, ez] at kk
    refine s_ret (e_not (a := Kyk1.together [y.x, z.x]) (e_call (a_consN nt_lst (n_lst (v_cons (e_thing T A e_var e_var ha) (v_cons (e_thing T A e_var e_var hb) v_nil)) (by show 2 ≤ 100000; decide)) a_nil) ?_)) kk
    rintro _ H2 e2 ⟨p, _, rfl, _, hp, rfl⟩ Q2 q2
    exact ⟨p, [a, b], [y, z], rfl, hp, things2 (Y.mono e2) (Z.mono e2), by simp, by simp, fun x hx => by
      simp only [List.mem_cons, List.not_mem_nil, or_false] at hx
      rcases hx with rfl | rfl
      · exact ok.lab _ (List.mem_of_getElem? hy)
      · exact ok.lab _ (List.mem_of_getElem? hz), q2⟩
def findA (g : Nat → Nat → Bool) : List Nat → Option (Nat × Nat)
  | [] => none
  | i :: r => match (i :: r).filter (g i) with
    | [] => findA g r
    | j :: _ => some (i, j)
def badB (q : Kyk.Laundry) (l : List Nat) : Bool := !(decide (1 ≤ l.length) && decide (l.length ≤ 20)) || decide (q.items.length ≤ maxN l)
def apartR (q : Kyk.Laundry) (l : List Nat) : Kyk.Ans := if badB q l then say (-22) else match findA (apB q) l with
  | none => say (-33)
  | some x => ⟨(x.1 : Nat), [x.2]⟩
def spTellApart : Sp := fun vs H Q _ => ∃ (f : Hm) (q : Kyk.Laundry) (n r : Addr) (l : List Nat), vs = [.ref f.p, .ref n] ∧ Inp H f q n [.ref r] ∧ H r = some (.lst (l.map nV)) ∧ l.length ≤ 1000 ∧ Done f H Q q (toL (apartR q l))
theorem ok_tellApart (T : Txt K mg) (c_are_apart : C8.Cal P w K mg base 3 "are_apart" spApart []) : C8.Cal P w K mg base 4 "tell_apart" spTellApart [] ∧ C8.CalAt P w K mg base 4 528 spTellApart := by
  have nd := (C8.fnScope_by sc_tell_apart).nd
  refine mkCal T.d_tell_apart T.m_tell_apart (fun _ _ _ _ _ _ us hl => match us, hl with | [_, _], _ => rfl) sc_tell_apart ?len fun cdv A outer s H vs Q E hr h => ⟨_, (pss_cons (ps_set (i := 2) nd rfl (Or.inl rfl) (pe_ix ix_list (pv 1) pe_int (fun _ _ => rfl)))
      (pss_cons (ps_if (PW.pt (pw_or (pt_not (pt_chain op_le op_le pe_int (pe_callB call_len_seq (by rfl) T.b_len (by decide +kernel) (pa_cons (pv 2) pa_nil)) (C8.pe_gc rfl T.g_MOST_APART))) (pw_or1 (pt_cmpR op_ge (pe_callB (cr_max rfl) (by rfl) T.b_max (by decide +kernel) (pa_cons (pv 2) pa_nil)) (pe_callB call_len_seq (by rfl) T.b_len (by decide +kernel) (pa_cons (pe_fld (pv 0) rfl) pa_nil)) (nomark _))))) (pss_one (ps_ret (pe_lst (pa_cons (C8.pe_gc rfl T.g_OUT_OF_RANGE) pa_nil)))) pss_nil)
      (pss_cons (ps_for PassesOwn.never rfl (pi_enum (by rfl) T.b_enumerate (pa_cons (pv 2) pa_nil)) (pg_tup (by rfl) (pgs_cons (pg_name (i := 3) nd rfl (Or.inl rfl)) (pgs_cons (pg_name (i := 4) nd rfl (Or.inr rfl)) pgs_nil))) (pss_cons (ps_setLc (i := 5) (own := [("j", 6)]) (te := (tVar 6)) (tt := (tB (tCall spApart [] C8.E0 (tCons (tVar 0) (tCons (tVar 4) (tCons (tVar 6) tNil)))))) rfl nd rfl rfl (sw_true rfl rfl rfl (by decide +kernel)) (pi_list (pe_slice sl_list (pv 2) (po_some (pv 3)) po_none)) (blkOk_by (own := [("j", 6)]) (N := N_tell_apart) (sc := C8.fnScope s_tell_apart) (by decide +kernel)) (fun _ _ _ _ _ => (pg_name (i := 6) nd rfl (Or.inl rfl))) (fun _ _ _ _ _ => (pts_one (pt_val (C8.pe_c c_are_apart hr (by decide) rfl (pa_cons (pv 0) (pa_cons (pv 4) (pa_cons (pv 6) pa_nil))))))) (fun _ _ _ _ _ => (pv 6)))
      (pss_one (ps_if (pt_cmpR op_gt (pe_callB call_len_seq (by rfl) T.b_len (by decide +kernel) (pa_cons (pv 5) pa_nil)) pe_int (nomark _)) (pss_one (ps_ret (pe_lst (pa_cons (pv 4) (pa_cons (pe_ix ix_list (pv 5) pe_int (fun _ _ => rfl)) pa_nil))))) pss_nil))))
      (pss_one (ps_ret (pe_lst (pa_cons (C8.pe_gc rfl T.g_NONE_APART) pa_nil))))))), ?body⟩
  case len =>
    rintro vs H Q E ⟨_, _, _, _, _, rfl, _⟩
    rfl
  case body =>
    obtain ⟨f, q, n, r, l, rfl, I, hr0, hl, kk⟩ := h
    have A := I.A
    unfold apartR at kk
    refine s_asg (v := .ref r) (e_arg (i := 0) I e_var e_c rfl) fun H1 e1 => ?_
    have A1 := A.mono e1
    have hr1 := e1.k _ _ hr0 nt_lst
    refine s_when (b := badB q l) (t_or (a := !(decide (1 ≤ l.length) && decide (l.length ≤ 20))) (t_not (t_is (t_test (e_chain (i := 1) (j := l.length) (l := 20) e_c (e_is (e_len e_var (SqL.of hr1)) (by rw [List.length_map])) e_c)) ?_)) fun c => t_ge (e_cb (a_cons e_var a_nil) ?_) (e_nt T A1 e_var)) (fun c H2 e2 => ?_) fun c H2 e2 => ?_
    · congr 1
      · exact decide_eq_decide.mpr (by omega)
      · exact decide_eq_decide.mpr (by omega)
    · rintro _ H8 e8 ⟨_, rfl, rfl⟩ H9 e9 Q9 q9
      have l1 : 1 ≤ l.length := by
        simp only [Bool.not_eq_false', Bool.and_eq_true, decide_eq_true_eq] at c
        exact c.1
      refine ⟨r, l.map fun n : Nat => (n : Int), rfl, by rw [map_int]; exact SqL.of ((e8.trans e9).k _ _ hr1 nt_lst), by rw [List.length_map]; exact l1, fun m hm hle => ?_⟩
      obtain ⟨n, hn, rfl⟩ := List.mem_map.mp hm
      rw [show n = maxN l from is_max hn fun y hy => by have := hle y (List.mem_map.mpr ⟨y, hy, rfl⟩); omega]
      exact q9 H9 (Xt.refl _)
    · rw [if_pos c] at kk
      exact s_say e_c rfl (kk.rd A (e1.trans e2))
    · rw [if_neg (by rw [c]; exact Bool.false_ne_true)] at kk
      have e12 := e1.trans e2
      have A2 := A.mono e12
      have hr2 := e12.k _ _ hr0 nt_lst
      have mem : ∀ i ∈ l, i < q.items.length := fun i hi => by
        unfold badB at c
        rw [Bool.or_eq_false_iff, decide_eq_false_iff_not] at c
        have : i ≤ maxN l := max_le.mp (Nat.le_refl _) i hi
        omega
      refine s_forS (w_enum (v_cons e_var v_nil) (SqL.of hr2)) (fun H3 i σ' H' => Xt H3 H' ∧ (∃ s3 s4 s5 s6, σ' = [some (.ref f.p), some (.ref n), some (.ref r), s3, s4, s5, s6]) ∧ findA (apB q) (l.drop i) = findA (apB q) l) (fun H3 e3 => ⟨Xt.refl _, ⟨_, _, _, _, rfl⟩, rfl⟩) (fun _ _ _ _ h => h.1) (fun H3 i σ' H' e3 hi h H5 e5 => ?_) fun H3 σ' H' e3 h => ?_
      · obtain ⟨e4, ⟨s3, s4, s5, s6, rfl⟩, fa⟩ := h
        rw [List.length_map] at hi
        obtain ⟨x, hx⟩ := lt_get hi
        rw [nat_at hx]
        have dr : l.drop i = x :: l.drop (i + 1) := by
          rw [List.drop_eq_getElem_cons hi, (List.getElem?_eq_some_iff.mp hx).2]
        have e25 := e3.trans (e4.trans e5)
        have hr5 := e25.k _ _ hr2 nt_lst
        have A5 := A2.mono e25
        have dl : (l.drop i).length ≤ 1000 := by
          rw [List.length_drop]
          omega
        refine s_asgN (o := .lst (((l.drop i).filter (apB q x)).map nV)) ?_ fun p H6 np e6 hp => ?_
        · refine n_lc (l.drop i) (apB q x) nV (w_listN (xs := (l.drop i).map nV) (by
            rw [List.map_drop, ← cut_from _ _ (by rw [List.length_map]; omega)]
            exact n_slice (hi := none) e_var (SqL.of hr5) (o_some e_var) (fun H1 e Q q => q H1 (Xt.refl _)))) (List.length_map ..) (by rw [List.length_map]; omega) fun k j H6 e6 hj => ?_
          have jm : j ∈ l := List.mem_of_mem_drop (List.mem_of_getElem? hj)
          refine ⟨rfl, t_b (e_call (a_cons e_var (a_cons e_var (a_cons (e_var (i := 6) (v := nV j) (congrArg some (nat_at hj))) a_nil))) ?_), fun _ => e_var (v := nV j) (congrArg some (nat_at hj))⟩
          rintro _ H7 e7 ⟨_, rfl, _, rfl, _, rfl, rfl⟩ Q7 q7
          exact ⟨f, q, x, j, rfl, A5.mono (e6.trans e7), I.ok, mem x (List.mem_of_getElem? hx), mem j jm, q7⟩
        · have e16 := (e12.trans e25).trans e6
          cases hF : (l.drop i).filter (apB q x) with
          | nil =>
            rw [hF] at hp
            refine s_whenL (b := false) (t_is (t_gt (k := 0) (n := 0) (e_is (e_len e_var (SqL.of hp)) rfl) e_c) rfl) (fun c => nomatch c) fun _ H7 e7 => ⟨e4.trans (e5.trans (e6.trans e7)), ⟨_, _, _, _, rfl⟩, ?_⟩
            rw [← fa, dr]
            rw [dr] at hF
            show _ = (match (x :: l.drop (i + 1)).filter (apB q x) with
              | [] => findA (apB q) (l.drop (i + 1))
              | j :: _ => some (x, j))
            rw [hF]
          | cons j t =>
            rw [hF] at hp
            have kf : findA (apB q) l = some (x, j) := by
              rw [← fa, dr]
              rw [dr] at hF
              show (match (x :: l.drop (i + 1)).filter (apB q x) with
                | [] => findA (apB q) (l.drop (i + 1))
                | j :: _ => some (x, j)) = _
              rw [hF]
            rw [kf] at kk
            refine s_whenL (b := true) (t_is (t_gt (k := t.length + 1) (n := 0) (e_is (e_len e_var (SqL.of hp)) (by rw [List.length_map] <;> rfl)) e_c) (decide_eq_true (by omega))) (fun _ H7 e7 => ?_) fun c => nomatch c
            have k2 := kk.rd A (e16.trans e7)
            rw [toL_nat] at k2
            exact s_retN (n_lst (v_cons e_var (v_cons (e_at (i := 0) e_var (SqL.of (e7.k _ _ hp nt_lst)) e_c rfl) v_nil)) (by show 2 ≤ 100000; decide)) k2
      · obtain ⟨e4, ⟨s3, s4, s5, s6, rfl⟩, fa⟩ := h
        rw [List.length_map, List.drop_length] at fa
        rw [← fa] at kk
        exact s_say e_c rfl (kk.rd A ((e12.trans e3).trans e4))
end
end Wash
/-! A call by its number; all calls. -/
namespace Wash
open PySem PySem.Spec PyProof.Rows L2
open Kyk (say)
def numOf : Kyk.Call → Nat
  | .start _ _ => 0
  | .order _ => 1
  | .add _ _ _ _ _ _ => 2
  | .close _ => 3
  | .plan _ => 4
  | .run _ _ => 5
  | .tick _ => 6
  | .broken _ _ => 7
  | .pack _ => 8
  | .hand _ => 9
  | .cancel _ => 10
  | .bill _ => 11
  | .where_ _ => 12
  | .label _ => 13
  | .thing _ => 14
  | .apart _ => 15
  | .waiting => 16
  | .machine _ => 17
  | .inside _ => 18
  | .state _ => 19
  | .late => 20
  | .next => 21
  | .till => 22
  | .all => 23
def plainOf : Kyk.Call → List Nat
  | .start p _ => [p]
  | .order d => [d]
  | .add o _ n k r w => [o, n, k, r, w]
  | .close o => [o]
  | .plan k => [k]
  | .run k j => [k, j]
  | .tick t => [t]
  | .broken k o => [k, o]
  | .pack o => [o]
  | .hand o => [o]
  | .cancel o => [o]
  | .bill o => [o]
  | .where_ i => [i]
  | .label i => [i]
  | .thing i => [i]
  | .apart _ => []
  | .waiting => []
  | .machine k => [k]
  | .inside k => [k]
  | .state o => [o]
  | .late => []
  | .next => []
  | .till => []
  | .all => []
def rowOf : Kyk.Call → Option (List Nat)
  | .start _ b => some b
  | .add _ t _ _ _ _ => some t
  | .apart l => some l
  | _ => none
def rowN (c : Kyk.Call) : List Nat := match rowOf c with
  | none => []
  | some r => r.length :: r
def encN (c : Kyk.Call) : List Nat := numOf c :: (plainOf c ++ rowN c)
/-- what each call does to the laundry, its places told of a thing alone -/
def act (q : Kyk.Laundry) : Kyk.Call → Kyk.Laundry × Kyk.Ans
  | .start p b => startQ q p b
  | .order d => orderQ q d
  | .add o t n k r w => addQ q o n k r w t
  | .close o => closeQ q o
  | .plan k => (q, planR q k)
  | .run k j => runQ q k j
  | .tick t => tickQ q t
  | .broken k o => brokenQ q k o
  | .pack o => packQ q o
  | .hand o => handQ q o
  | .cancel o => cancelQ q o
  | .bill o => (q, billR q o)
  | .where_ i => (q, whereR q i)
  | .label i => (q, labelR q i)
  | .thing i => (q, thingR q i)
  | .apart l => (q, apartR q l)
  | .waiting => (q, waitR q)
  | .machine k => (q, tellMacR q k)
  | .inside k => (q, insideR q k)
  | .state o => (q, stateR q o)
  | .late => (q, lateR q)
  | .next => (q, nextR q)
  | .till => (q, say (q.till : Nat))
  | .all => (q, allR q)
def rowOk (c : Kyk.Call) : Prop := match rowOf c with
  | none => True
  | some r => r.length ≤ 200 ∧ ∀ n ∈ r, numOf c = 2 → n < 256
def ArgsAt (H : Hp) (n : Addr) (c : Kyk.Call) : Prop := match rowOf c with
  | none => H n = some (.lst ((plainOf c).map nV))
  | some r => ∃ ra, H n = some (.lst ((plainOf c).map nV ++ [.ref ra])) ∧ H ra = some (.lst (r.map nV))
theorem ArgsAt.mono {H H' : Hp} {n : Addr} {c : Kyk.Call} (e : Xt H H') (h : ArgsAt H n c) : ArgsAt H' n c := by
  unfold ArgsAt at h ⊢
  cases hr : rowOf c with
  | none =>
    rw [hr] at h
    exact e.k _ _ h nt_lst
  | some r =>
    rw [hr] at h
    obtain ⟨ra, h1, h2⟩ := h
    exact ⟨ra, e.k _ _ h1 nt_lst, e.k _ _ h2 nt_lst⟩
theorem Done.mono {f : Hm} {H H1 : Hp} {Q : VK} {q1 : Kyk.Laundry} {ans : List Int} (e : Xt H H1) (k : Done f H Q q1 ans) : Done f H1 Q q1 ans := fun H' f' p fp kp A hp nb nf => k H' f' p fp ((Kp.of e).trans kp) A hp (fun b xs n h => nb b xs n (e.k _ _ h nt_lst)) nf
section
variable {P : Program} {w : World} {K : PySem.W.Frag} {mg : Str → Option Value} {base : Heap}
theorem calAt_up {j k : Nat} {f : Addr} {sp : Sp} (c : C8.CalAt P w K mg base j f sp) (h : j ≤ k) : C8.CalAt P w K mg base k f sp := by
  obtain ⟨fd, ps, F, kp, b⟩ := c.ex
  exact ⟨fd, ps, F.mono h, kp, b⟩
theorem rv_kd {H : Hp} {d : Addr} {kvs : List (Int × V)} {k : Int} {v : V} (T : KTab K d kvs) (h : tabV kvs k = some v) : RV (rKd K) (.ref d) (.int k) H v := fun _ _ _ q => ⟨d, kvs, k, v, rfl, rfl, T, h, q⟩
theorem rv_inkd {H : Hp} {d : Addr} {kvs : List (Int × V)} {k : Int} (T : KTab K d kvs) : RV (rInKd K) (.int k) (.ref d) H (.bl (tabV kvs k).isSome) := fun _ _ _ q => ⟨d, kvs, k, rfl, rfl, T, q⟩
theorem d_calld {σ : L2.St} {H : Hp} {Has : Addr → Sp → Prop} {tf : TE} {t : TA} {a : Addr} {sp : Sp} {R : List V → Hp → Prop} {Q : VK} (h : Ev tf σ H (.ref a)) (hs : Has a sp) (ha : EvA t σ H R) (k : ∀ vs H1, Xt H H1 → R vs H1 → sp vs H1 Q C8.E0) : tCallR Has tf t σ H Q :=
  h H (Xt.refl H) _ fun H1 e1 => ⟨a, sp, rfl, hs, ha H1 e1 _ fun vs H2 e2 r => k vs H2 (e1.trans e2) r⟩
abbrev kvO : List (Int × V) := [(0, .ref 392), (1, .ref 399), (2, .ref 418), (3, .ref 425), (8, .ref 430), (9, .ref 437), (10, .ref 442), (11, .ref 449), (19, .ref 454), (20, .ref 466), (22, .ref 473), (23, .ref 480)]
abbrev kvM : List (Int × V) := [(4, .ref 320), (5, .ref 332), (6, .ref 339), (7, .ref 346), (17, .ref 353), (18, .ref 360), (21, .ref 365)]
abbrev kvT : List (Int × V) := [(12, .ref 502), (13, .ref 509), (14, .ref 516), (15, .ref 528), (16, .ref 535)]
def spIsO : Sp := fun vs H Q _ => ∃ z : Int, vs = [.int z] ∧ RetV (.bl (tabV kvO z).isSome) H Q
def spIsM : Sp := fun vs H Q _ => ∃ z : Int, vs = [.int z] ∧ RetV (.bl (tabV kvM z).isSome) H Q
theorem ok_isO (T : Txt K mg) : C8.Cal P w K mg base 1 "is_order_call" spIsO [] := by
  have nd := (C8.fnScope_by sc_is_order_call).nd
  refine mkCal1 T.d_is_order_call T.m_is_order_call (fun _ _ _ _ _ _ us hl => match us, hl with | [_], _ => rfl) sc_is_order_call ?len fun cdv A outer s H vs Q E hr h => ⟨_, (pss_one (ps_ret (pe_cmpR (op_in_kd2) (pv 0) (C8.pe_gc rfl T.g_ORDER_CALLS) (by rfl)))), ?body⟩
  case len =>
    rintro vs H Q E ⟨_, rfl, _⟩
    rfl
  case body =>
    obtain ⟨z, rfl, kk⟩ := h
    exact s_ret (e_op e_var e_c (rv_inkd T.k_ORDER_CALLS)) kk
theorem ok_isM (T : Txt K mg) : C8.Cal P w K mg base 1 "is_machine_call" spIsM [] := by
  have nd := (C8.fnScope_by sc_is_machine_call).nd
  refine mkCal1 T.d_is_machine_call T.m_is_machine_call (fun _ _ _ _ _ _ us hl => match us, hl with | [_], _ => rfl) sc_is_machine_call ?len fun cdv A outer s H vs Q E hr h => ⟨_, (pss_one (ps_ret (pe_cmpR (op_in_kd2) (pv 0) (C8.pe_gc rfl T.g_MACHINE_CALLS) (by rfl)))), ?body⟩
  case len =>
    rintro vs H Q E ⟨_, rfl, _⟩
    rfl
  case body =>
    obtain ⟨z, rfl, kk⟩ := h
    exact s_ret (e_op e_var e_c (rv_inkd T.k_MACHINE_CALLS)) kk
def HasO (a : Addr) (sp : Sp) : Prop := (a = 392 ∧ sp = spStart) ∨ (a = 399 ∧ sp = spOrder) ∨ (a = 418 ∧ sp = spAdd) ∨ (a = 425 ∧ sp = spClose) ∨ (a = 430 ∧ sp = spPack) ∨ (a = 437 ∧ sp = spHand) ∨ (a = 442 ∧ sp = spCancel) ∨ (a = 449 ∧ sp = spBillC) ∨ (a = 454 ∧ sp = spTellState) ∨ (a = 466 ∧ sp = spTellLate) ∨ (a = 473 ∧ sp = spTill) ∨ (a = 480 ∧ sp = spAll)
def HasM (a : Addr) (sp : Sp) : Prop := (a = 320 ∧ sp = spPlan) ∨ (a = 332 ∧ sp = spRun) ∨ (a = 339 ∧ sp = spTick) ∨ (a = 346 ∧ sp = spBroken) ∨ (a = 353 ∧ sp = spTellMac) ∨ (a = 360 ∧ sp = spInside) ∨ (a = 365 ∧ sp = spNext)
def HasT (a : Addr) (sp : Sp) : Prop := (a = 502 ∧ sp = spWhere) ∨ (a = 509 ∧ sp = spTellLabel) ∨ (a = 516 ∧ sp = spTellThing) ∨ (a = 528 ∧ sp = spTellApart) ∨ (a = 535 ∧ sp = spTellWait)
/-- a call, whatever it is, of those whose numbers ok tells -/
def spAct (ok : Kyk.Call → Prop) : Sp := fun vs H Q _ => ∃ (f : Hm) (q : Kyk.Laundry) (n : Addr) (c : Kyk.Call), vs = [.ref f.p, nV (numOf c), .ref n] ∧ ok c ∧ HousAt H f q ∧ Ok q ∧ Tb H ∧ n ∉ Foot f ∧ ArgsAt H n c ∧ rowOk c ∧ Done f H Q (act q c).1 (toL (act q c).2)
def isO (c : Kyk.Call) : Prop := (tabV kvO (numOf c)).isSome = true
def isM (c : Kyk.Call) : Prop := (tabV kvM (numOf c)).isSome = true
def isT (c : Kyk.Call) : Prop := (tabV kvO (numOf c)).isSome = false ∧ (tabV kvM (numOf c)).isSome = false
theorem ok_answer_order_call (T : Txt K mg) (h_spStart : C8.Cal P w K mg base 4 "start" spStart [] ∧ C8.CalAt P w K mg base 4 392 spStart) (h_spOrder : C8.Cal P w K mg base 3 "order" spOrder [] ∧ C8.CalAt P w K mg base 3 399 spOrder) (h_spAdd : C8.Cal P w K mg base 5 "add" spAdd [] ∧ C8.CalAt P w K mg base 5 418 spAdd) (h_spClose : C8.Cal P w K mg base 2 "close" spClose [] ∧ C8.CalAt P w K mg base 2 425 spClose) (h_spPack : C8.Cal P w K mg base 2 "pack" spPack [] ∧ C8.CalAt P w K mg base 2 430 spPack) (h_spHand : C8.Cal P w K mg base 3 "hand" spHand [] ∧ C8.CalAt P w K mg base 3 437 spHand) (h_spCancel : C8.Cal P w K mg base 2 "cancel" spCancel [] ∧ C8.CalAt P w K mg base 2 442 spCancel) (h_spBillC : C8.Cal P w K mg base 3 "bill" spBillC [] ∧ C8.CalAt P w K mg base 3 449 spBillC) (h_spTellState : C8.Cal P w K mg base 2 "tell_state" spTellState [] ∧ C8.CalAt P w K mg base 2 454 spTellState) (h_spTellLate : C8.Cal P w K mg base 2 "tell_late" spTellLate [] ∧ C8.CalAt P w K mg base 2 466 spTellLate) (h_spTill : C8.Cal P w K mg base 1 "tell_till" spTill [] ∧ C8.CalAt P w K mg base 1 473 spTill) (h_spAll : C8.Cal P w K mg base 7 "tell_all" spAll [] ∧ C8.CalAt P w K mg base 7 480 spAll) : C8.Cal P w K mg base 8 "answer_order_call" (spAct isO) [] := by
  have nd := (C8.fnScope_by sc_answer_order_call).nd
  have S : ∀ f sp, HasO f sp → C8.CalAt P w K mg base 7 f sp := by
    rintro a sp h
    unfold HasO at h
    rcases h with ⟨rfl, rfl⟩ | ⟨rfl, rfl⟩ | ⟨rfl, rfl⟩ | ⟨rfl, rfl⟩ | ⟨rfl, rfl⟩ | ⟨rfl, rfl⟩ | ⟨rfl, rfl⟩ | ⟨rfl, rfl⟩ | ⟨rfl, rfl⟩ | ⟨rfl, rfl⟩ | ⟨rfl, rfl⟩ | ⟨rfl, rfl⟩
    · exact calAt_up h_spStart.2 (by decide)
    · exact calAt_up h_spOrder.2 (by decide)
    · exact calAt_up h_spAdd.2 (by decide)
    · exact calAt_up h_spClose.2 (by decide)
    · exact calAt_up h_spPack.2 (by decide)
    · exact calAt_up h_spHand.2 (by decide)
    · exact calAt_up h_spCancel.2 (by decide)
    · exact calAt_up h_spBillC.2 (by decide)
    · exact calAt_up h_spTellState.2 (by decide)
    · exact calAt_up h_spTellLate.2 (by decide)
    · exact calAt_up h_spTill.2 (by decide)
    · exact calAt_up h_spAll.2 (by decide)
  refine mkCal1 T.d_answer_order_call T.m_answer_order_call (fun _ _ _ _ _ _ us hl => match us, hl with | [_, _, _], _ => rfl) sc_answer_order_call ?len fun cdv A outer s H vs Q E hr h => ⟨_, (pss_one (ps_ret (pe_calld S hr (Nat.le_refl _) (pe_ix (ix_kd) (C8.pe_gc rfl T.g_ORDER_CALLS) (pv 1) (fun _ _ => rfl)) (pa_cons (pv 0) (pa_cons (pv 2) pa_nil))))), ?body⟩
  case len =>
    rintro vs H Q E ⟨_, _, _, _, rfl, _⟩
    rfl
  case body =>
    obtain ⟨f, q, n, c, rfl, ok1, A, ok, tb, nf, ar, ro, kk⟩ := h
    cases c with
    | start p b =>
      refine d_calld (sp := spStart) (e_op e_c e_var (rv_kd T.k_ORDER_CALLS rfl)) (by simp [HasO]) (a_cons e_var (a_cons e_var a_nil)) ?_
      rintro _ H1 e1 ⟨_, rfl, _, rfl, rfl⟩
      obtain ⟨ra, h1, h2⟩ := ar.mono e1
      exact ⟨f, q, n, ra, p, b, rfl, ⟨A.mono e1, ok, e1.t tb, h1, nf⟩, h2, Nat.le_trans ro.1 (by decide), kk.mono e1⟩
    | order d =>
      refine d_calld (sp := spOrder) (e_op e_c e_var (rv_kd T.k_ORDER_CALLS rfl)) (by simp [HasO]) (a_cons e_var (a_cons e_var a_nil)) ?_
      rintro _ H1 e1 ⟨_, rfl, _, rfl, rfl⟩
      exact ⟨f, q, n, d, rfl, ⟨A.mono e1, ok, e1.t tb, ar.mono e1, nf⟩, kk.mono e1⟩
    | add o t n2 k r w =>
      refine d_calld (sp := spAdd) (e_op e_c e_var (rv_kd T.k_ORDER_CALLS rfl)) (by simp [HasO]) (a_cons e_var (a_cons e_var a_nil)) ?_
      rintro _ H1 e1 ⟨_, rfl, _, rfl, rfl⟩
      obtain ⟨ra, h1, h2⟩ := ar.mono e1
      exact ⟨f, q, n, ra, o, n2, k, r, w, t, rfl, ⟨A.mono e1, ok, e1.t tb, h1, nf⟩, h2, fun n hn => ro.2 n hn rfl, ro.1, kk.mono e1⟩
    | close o =>
      refine d_calld (sp := spClose) (e_op e_c e_var (rv_kd T.k_ORDER_CALLS rfl)) (by simp [HasO]) (a_cons e_var (a_cons e_var a_nil)) ?_
      rintro _ H1 e1 ⟨_, rfl, _, rfl, rfl⟩
      exact ⟨f, q, n, o, rfl, ⟨A.mono e1, ok, e1.t tb, ar.mono e1, nf⟩, kk.mono e1⟩
    | pack o =>
      refine d_calld (sp := spPack) (e_op e_c e_var (rv_kd T.k_ORDER_CALLS rfl)) (by simp [HasO]) (a_cons e_var (a_cons e_var a_nil)) ?_
      rintro _ H1 e1 ⟨_, rfl, _, rfl, rfl⟩
      exact ⟨f, q, n, o, rfl, ⟨A.mono e1, ok, e1.t tb, ar.mono e1, nf⟩, kk.mono e1⟩
    | hand o =>
      refine d_calld (sp := spHand) (e_op e_c e_var (rv_kd T.k_ORDER_CALLS rfl)) (by simp [HasO]) (a_cons e_var (a_cons e_var a_nil)) ?_
      rintro _ H1 e1 ⟨_, rfl, _, rfl, rfl⟩
      exact ⟨f, q, n, o, rfl, ⟨A.mono e1, ok, e1.t tb, ar.mono e1, nf⟩, kk.mono e1⟩
    | cancel o =>
      refine d_calld (sp := spCancel) (e_op e_c e_var (rv_kd T.k_ORDER_CALLS rfl)) (by simp [HasO]) (a_cons e_var (a_cons e_var a_nil)) ?_
      rintro _ H1 e1 ⟨_, rfl, _, rfl, rfl⟩
      exact ⟨f, q, n, o, rfl, ⟨A.mono e1, ok, e1.t tb, ar.mono e1, nf⟩, kk.mono e1⟩
    | bill o =>
      refine d_calld (sp := spBillC) (e_op e_c e_var (rv_kd T.k_ORDER_CALLS rfl)) (by simp [HasO]) (a_cons e_var (a_cons e_var a_nil)) ?_
      rintro _ H1 e1 ⟨_, rfl, _, rfl, rfl⟩
      exact ⟨f, q, n, o, rfl, ⟨A.mono e1, ok, e1.t tb, ar.mono e1, nf⟩, kk.mono e1⟩
    | state o =>
      refine d_calld (sp := spTellState) (e_op e_c e_var (rv_kd T.k_ORDER_CALLS rfl)) (by simp [HasO]) (a_cons e_var (a_cons e_var a_nil)) ?_
      rintro _ H1 e1 ⟨_, rfl, _, rfl, rfl⟩
      exact ⟨f, q, n, o, rfl, ⟨A.mono e1, ok, e1.t tb, ar.mono e1, nf⟩, kk.mono e1⟩
    | late =>
      refine d_calld (sp := spTellLate) (e_op e_c e_var (rv_kd T.k_ORDER_CALLS rfl)) (by simp [HasO]) (a_cons e_var (a_cons e_var a_nil)) ?_
      rintro _ H1 e1 ⟨_, rfl, _, rfl, rfl⟩
      exact ⟨f, q, n, rfl, ⟨A.mono e1, ok, e1.t tb, ar.mono e1, nf⟩, kk.mono e1⟩
    | till =>
      refine d_calld (sp := spTill) (e_op e_c e_var (rv_kd T.k_ORDER_CALLS rfl)) (by simp [HasO]) (a_cons e_var (a_cons e_var a_nil)) ?_
      rintro _ H1 e1 ⟨_, rfl, _, rfl, rfl⟩
      exact ⟨f, q, n, rfl, ⟨A.mono e1, ok, e1.t tb, ar.mono e1, nf⟩, kk.mono e1⟩
    | all =>
      refine d_calld (sp := spAll) (e_op e_c e_var (rv_kd T.k_ORDER_CALLS rfl)) (by simp [HasO]) (a_cons e_var (a_cons e_var a_nil)) ?_
      rintro _ H1 e1 ⟨_, rfl, _, rfl, rfl⟩
      exact ⟨f, q, n, rfl, ⟨A.mono e1, ok, e1.t tb, ar.mono e1, nf⟩, kk.mono e1⟩
    | plan k => exact absurd ok1 (fun z : isO _ => (nomatch z))
    | run k j => exact absurd ok1 (fun z : isO _ => (nomatch z))
    | tick t => exact absurd ok1 (fun z : isO _ => (nomatch z))
    | broken k o => exact absurd ok1 (fun z : isO _ => (nomatch z))
    | machine k => exact absurd ok1 (fun z : isO _ => (nomatch z))
    | inside k => exact absurd ok1 (fun z : isO _ => (nomatch z))
    | next => exact absurd ok1 (fun z : isO _ => (nomatch z))
    | where_ i => exact absurd ok1 (fun z : isO _ => (nomatch z))
    | label i => exact absurd ok1 (fun z : isO _ => (nomatch z))
    | thing i => exact absurd ok1 (fun z : isO _ => (nomatch z))
    | apart l => exact absurd ok1 (fun z : isO _ => (nomatch z))
    | waiting => exact absurd ok1 (fun z : isO _ => (nomatch z))
theorem ok_answer_machine_call (T : Txt K mg) (h_spPlan : C8.Cal P w K mg base 17 "plan" spPlan [] ∧ C8.CalAt P w K mg base 17 320 spPlan) (h_spRun : C8.Cal P w K mg base 17 "run" spRun [] ∧ C8.CalAt P w K mg base 17 332 spRun) (h_spTick : C8.Cal P w K mg base 3 "tick" spTick [] ∧ C8.CalAt P w K mg base 3 339 spTick) (h_spBroken : C8.Cal P w K mg base 2 "broken" spBroken [] ∧ C8.CalAt P w K mg base 2 346 spBroken) (h_spTellMac : C8.Cal P w K mg base 2 "tell_machine" spTellMac [] ∧ C8.CalAt P w K mg base 2 353 spTellMac) (h_spInside : C8.Cal P w K mg base 1 "tell_inside" spInside [] ∧ C8.CalAt P w K mg base 1 360 spInside) (h_spNext : C8.Cal P w K mg base 2 "tell_next" spNext [] ∧ C8.CalAt P w K mg base 2 365 spNext) : C8.Cal P w K mg base 18 "answer_machine_call" (spAct isM) [] := by
  have nd := (C8.fnScope_by sc_answer_machine_call).nd
  have S : ∀ f sp, HasM f sp → C8.CalAt P w K mg base 17 f sp := by
    rintro a sp h
    unfold HasM at h
    rcases h with ⟨rfl, rfl⟩ | ⟨rfl, rfl⟩ | ⟨rfl, rfl⟩ | ⟨rfl, rfl⟩ | ⟨rfl, rfl⟩ | ⟨rfl, rfl⟩ | ⟨rfl, rfl⟩
    · exact calAt_up h_spPlan.2 (by decide)
    · exact calAt_up h_spRun.2 (by decide)
    · exact calAt_up h_spTick.2 (by decide)
    · exact calAt_up h_spBroken.2 (by decide)
    · exact calAt_up h_spTellMac.2 (by decide)
    · exact calAt_up h_spInside.2 (by decide)
    · exact calAt_up h_spNext.2 (by decide)
  refine mkCal1 T.d_answer_machine_call T.m_answer_machine_call (fun _ _ _ _ _ _ us hl => match us, hl with | [_, _, _], _ => rfl) sc_answer_machine_call ?len fun cdv A outer s H vs Q E hr h => ⟨_, (pss_one (ps_ret (pe_calld S hr (Nat.le_refl _) (pe_ix (ix_kd) (C8.pe_gc rfl T.g_MACHINE_CALLS) (pv 1) (fun _ _ => rfl)) (pa_cons (pv 0) (pa_cons (pv 2) pa_nil))))), ?body⟩
  case len =>
    rintro vs H Q E ⟨_, _, _, _, rfl, _⟩
    rfl
  case body =>
    obtain ⟨f, q, n, c, rfl, ok1, A, ok, tb, nf, ar, ro, kk⟩ := h
    cases c with
    | start p b => exact absurd ok1 (fun z : isM _ => (nomatch z))
    | order d => exact absurd ok1 (fun z : isM _ => (nomatch z))
    | add o t n2 k r w => exact absurd ok1 (fun z : isM _ => (nomatch z))
    | close o => exact absurd ok1 (fun z : isM _ => (nomatch z))
    | pack o => exact absurd ok1 (fun z : isM _ => (nomatch z))
    | hand o => exact absurd ok1 (fun z : isM _ => (nomatch z))
    | cancel o => exact absurd ok1 (fun z : isM _ => (nomatch z))
    | bill o => exact absurd ok1 (fun z : isM _ => (nomatch z))
    | state o => exact absurd ok1 (fun z : isM _ => (nomatch z))
    | late => exact absurd ok1 (fun z : isM _ => (nomatch z))
    | till => exact absurd ok1 (fun z : isM _ => (nomatch z))
    | all => exact absurd ok1 (fun z : isM _ => (nomatch z))
    | plan k =>
      refine d_calld (sp := spPlan) (e_op e_c e_var (rv_kd T.k_MACHINE_CALLS rfl)) (by simp [HasM]) (a_cons e_var (a_cons e_var a_nil)) ?_
      rintro _ H1 e1 ⟨_, rfl, _, rfl, rfl⟩
      exact ⟨f, q, n, k, rfl, ⟨A.mono e1, ok, e1.t tb, ar.mono e1, nf⟩, kk.mono e1⟩
    | run k j =>
      refine d_calld (sp := spRun) (e_op e_c e_var (rv_kd T.k_MACHINE_CALLS rfl)) (by simp [HasM]) (a_cons e_var (a_cons e_var a_nil)) ?_
      rintro _ H1 e1 ⟨_, rfl, _, rfl, rfl⟩
      exact ⟨f, q, n, k, j, rfl, ⟨A.mono e1, ok, e1.t tb, ar.mono e1, nf⟩, kk.mono e1⟩
    | tick t =>
      refine d_calld (sp := spTick) (e_op e_c e_var (rv_kd T.k_MACHINE_CALLS rfl)) (by simp [HasM]) (a_cons e_var (a_cons e_var a_nil)) ?_
      rintro _ H1 e1 ⟨_, rfl, _, rfl, rfl⟩
      exact ⟨f, q, n, t, rfl, ⟨A.mono e1, ok, e1.t tb, ar.mono e1, nf⟩, kk.mono e1⟩
    | broken k o =>
      refine d_calld (sp := spBroken) (e_op e_c e_var (rv_kd T.k_MACHINE_CALLS rfl)) (by simp [HasM]) (a_cons e_var (a_cons e_var a_nil)) ?_
      rintro _ H1 e1 ⟨_, rfl, _, rfl, rfl⟩
      exact ⟨f, q, n, k, o, rfl, ⟨A.mono e1, ok, e1.t tb, ar.mono e1, nf⟩, kk.mono e1⟩
    | machine k =>
      refine d_calld (sp := spTellMac) (e_op e_c e_var (rv_kd T.k_MACHINE_CALLS rfl)) (by simp [HasM]) (a_cons e_var (a_cons e_var a_nil)) ?_
      rintro _ H1 e1 ⟨_, rfl, _, rfl, rfl⟩
      exact ⟨f, q, n, k, rfl, ⟨A.mono e1, ok, e1.t tb, ar.mono e1, nf⟩, kk.mono e1⟩
    | inside k =>
      refine d_calld (sp := spInside) (e_op e_c e_var (rv_kd T.k_MACHINE_CALLS rfl)) (by simp [HasM]) (a_cons e_var (a_cons e_var a_nil)) ?_
      rintro _ H1 e1 ⟨_, rfl, _, rfl, rfl⟩
      exact ⟨f, q, n, k, rfl, ⟨A.mono e1, ok, e1.t tb, ar.mono e1, nf⟩, kk.mono e1⟩
    | next =>
      refine d_calld (sp := spNext) (e_op e_c e_var (rv_kd T.k_MACHINE_CALLS rfl)) (by simp [HasM]) (a_cons e_var (a_cons e_var a_nil)) ?_
      rintro _ H1 e1 ⟨_, rfl, _, rfl, rfl⟩
      exact ⟨f, q, n, rfl, ⟨A.mono e1, ok, e1.t tb, ar.mono e1, nf⟩, kk.mono e1⟩
    | where_ i => exact absurd ok1 (fun z : isM _ => (nomatch z))
    | label i => exact absurd ok1 (fun z : isM _ => (nomatch z))
    | thing i => exact absurd ok1 (fun z : isM _ => (nomatch z))
    | apart l => exact absurd ok1 (fun z : isM _ => (nomatch z))
    | waiting => exact absurd ok1 (fun z : isM _ => (nomatch z))
theorem ok_answer_thing_call (T : Txt K mg) (h_spWhere : C8.Cal P w K mg base 2 "tell_where" spWhere [] ∧ C8.CalAt P w K mg base 2 502 spWhere) (h_spTellLabel : C8.Cal P w K mg base 2 "tell_label" spTellLabel [] ∧ C8.CalAt P w K mg base 2 509 spTellLabel) (h_spTellThing : C8.Cal P w K mg base 1 "tell_thing" spTellThing [] ∧ C8.CalAt P w K mg base 1 516 spTellThing) (h_spTellApart : C8.Cal P w K mg base 4 "tell_apart" spTellApart [] ∧ C8.CalAt P w K mg base 4 528 spTellApart) (h_spTellWait : C8.Cal P w K mg base 7 "tell_waiting" spTellWait [] ∧ C8.CalAt P w K mg base 7 535 spTellWait) : C8.Cal P w K mg base 8 "answer_thing_call" (spAct isT) [] := by
  have nd := (C8.fnScope_by sc_answer_thing_call).nd
  have S : ∀ f sp, HasT f sp → C8.CalAt P w K mg base 7 f sp := by
    rintro a sp h
    unfold HasT at h
    rcases h with ⟨rfl, rfl⟩ | ⟨rfl, rfl⟩ | ⟨rfl, rfl⟩ | ⟨rfl, rfl⟩ | ⟨rfl, rfl⟩
    · exact calAt_up h_spWhere.2 (by decide)
    · exact calAt_up h_spTellLabel.2 (by decide)
    · exact calAt_up h_spTellThing.2 (by decide)
    · exact calAt_up h_spTellApart.2 (by decide)
    · exact calAt_up h_spTellWait.2 (by decide)
  refine mkCal1 T.d_answer_thing_call T.m_answer_thing_call (fun _ _ _ _ _ _ us hl => match us, hl with | [_, _, _], _ => rfl) sc_answer_thing_call ?len fun cdv A outer s H vs Q E hr h => ⟨_, (pss_one (ps_ret (pe_calld S hr (Nat.le_refl _) (pe_ix (ix_kd) (C8.pe_gc rfl T.g_THING_CALLS) (pv 1) (fun _ _ => rfl)) (pa_cons (pv 0) (pa_cons (pv 2) pa_nil))))), ?body⟩
  case len =>
    rintro vs H Q E ⟨_, _, _, _, rfl, _⟩
    rfl
  case body =>
    obtain ⟨f, q, n, c, rfl, ok1, A, ok, tb, nf, ar, ro, kk⟩ := h
    cases c with
    | start p b => exact absurd ok1 (fun z : isT _ => nomatch z.1)
    | order d => exact absurd ok1 (fun z : isT _ => nomatch z.1)
    | add o t n2 k r w => exact absurd ok1 (fun z : isT _ => nomatch z.1)
    | close o => exact absurd ok1 (fun z : isT _ => nomatch z.1)
    | pack o => exact absurd ok1 (fun z : isT _ => nomatch z.1)
    | hand o => exact absurd ok1 (fun z : isT _ => nomatch z.1)
    | cancel o => exact absurd ok1 (fun z : isT _ => nomatch z.1)
    | bill o => exact absurd ok1 (fun z : isT _ => nomatch z.1)
    | state o => exact absurd ok1 (fun z : isT _ => nomatch z.1)
    | late => exact absurd ok1 (fun z : isT _ => nomatch z.1)
    | till => exact absurd ok1 (fun z : isT _ => nomatch z.1)
    | all => exact absurd ok1 (fun z : isT _ => nomatch z.1)
    | plan k => exact absurd ok1 (fun z : isT _ => nomatch z.2)
    | run k j => exact absurd ok1 (fun z : isT _ => nomatch z.2)
    | tick t => exact absurd ok1 (fun z : isT _ => nomatch z.2)
    | broken k o => exact absurd ok1 (fun z : isT _ => nomatch z.2)
    | machine k => exact absurd ok1 (fun z : isT _ => nomatch z.2)
    | inside k => exact absurd ok1 (fun z : isT _ => nomatch z.2)
    | next => exact absurd ok1 (fun z : isT _ => nomatch z.2)
    | where_ i =>
      refine d_calld (sp := spWhere) (e_op e_c e_var (rv_kd T.k_THING_CALLS rfl)) (by simp [HasT]) (a_cons e_var (a_cons e_var a_nil)) ?_
      rintro _ H1 e1 ⟨_, rfl, _, rfl, rfl⟩
      exact ⟨f, q, n, i, rfl, ⟨A.mono e1, ok, e1.t tb, ar.mono e1, nf⟩, kk.mono e1⟩
    | label i =>
      refine d_calld (sp := spTellLabel) (e_op e_c e_var (rv_kd T.k_THING_CALLS rfl)) (by simp [HasT]) (a_cons e_var (a_cons e_var a_nil)) ?_
      rintro _ H1 e1 ⟨_, rfl, _, rfl, rfl⟩
      exact ⟨f, q, n, i, rfl, ⟨A.mono e1, ok, e1.t tb, ar.mono e1, nf⟩, kk.mono e1⟩
    | thing i =>
      refine d_calld (sp := spTellThing) (e_op e_c e_var (rv_kd T.k_THING_CALLS rfl)) (by simp [HasT]) (a_cons e_var (a_cons e_var a_nil)) ?_
      rintro _ H1 e1 ⟨_, rfl, _, rfl, rfl⟩
      exact ⟨f, q, n, i, rfl, ⟨A.mono e1, ok, e1.t tb, ar.mono e1, nf⟩, kk.mono e1⟩
    | apart l =>
      refine d_calld (sp := spTellApart) (e_op e_c e_var (rv_kd T.k_THING_CALLS rfl)) (by simp [HasT]) (a_cons e_var (a_cons e_var a_nil)) ?_
      rintro _ H1 e1 ⟨_, rfl, _, rfl, rfl⟩
      obtain ⟨ra, h1, h2⟩ := ar.mono e1
      exact ⟨f, q, n, ra, l, rfl, ⟨A.mono e1, ok, e1.t tb, h1, nf⟩, h2, Nat.le_trans ro.1 (by decide), kk.mono e1⟩
    | waiting =>
      refine d_calld (sp := spTellWait) (e_op e_c e_var (rv_kd T.k_THING_CALLS rfl)) (by simp [HasT]) (a_cons e_var (a_cons e_var a_nil)) ?_
      rintro _ H1 e1 ⟨_, rfl, _, rfl, rfl⟩
      exact ⟨f, q, n, rfl, ⟨A.mono e1, ok, e1.t tb, ar.mono e1, nf⟩, kk.mono e1⟩
end
end Wash
namespace Wash
open PySem PySem.Spec PyProof.Rows L2
open Kyk (say)
theorem cut_mid {α : Type} (g : α → V) (a b c : List α) {i j : Nat} (hi : i = a.length) (hj : j = a.length + b.length) : cutV ((a ++ (b ++ c)).map g) (some (i : Int)) (some (j : Int)) = b.map g := by
  subst hi hj
  have hl : ((a ++ (b ++ c)).map g).length = a.length + (b.length + c.length) := by rw [List.length_map, List.length_append, List.length_append]
  unfold cutV
  rw [HT.sIx_nat, HT.sIx_nat, hl, Nat.min_eq_left (by omega), Nat.min_eq_left (by omega), Nat.add_sub_cancel_left, List.map_append, List.map_append]
  rw [List.drop_append_of_le_length (by rw [List.length_map]; exact Nat.le_refl _), List.drop_of_length_le (by rw [List.length_map]; exact Nat.le_refl _), List.nil_append, List.take_append_of_le_length (by rw [List.length_map]; exact Nat.le_refl _), List.take_of_length_le (by rw [List.length_map]; exact Nat.le_refl _)]
def plainT : List Nat := [1, 1, 5, 1, 1, 2, 1, 2, 1, 1, 1, 1, 1, 1, 1, 0, 0, 1, 1, 1, 0, 0, 0, 0]
theorem plain_len (c : Kyk.Call) : plainT[numOf c]? = some (plainOf c).length := by cases c <;> rfl
theorem row_some (c : Kyk.Call) : ([0, 2, 15] : List Nat).contains (numOf c) = (rowOf c).isSome := by cases c <;> rfl
section
variable {P : Program} {w : World} {K : PySem.W.Frag} {mg : Str → Option Value} {base : Heap}
theorem ok_answer (T : Txt K mg) (c_is_order_call : C8.Cal P w K mg base 1 "is_order_call" spIsO []) (c_is_machine_call : C8.Cal P w K mg base 1 "is_machine_call" spIsM []) (c_answer_order_call : C8.Cal P w K mg base 8 "answer_order_call" (spAct isO) []) (c_answer_machine_call : C8.Cal P w K mg base 18 "answer_machine_call" (spAct isM) []) (c_answer_thing_call : C8.Cal P w K mg base 8 "answer_thing_call" (spAct isT) []) :
    C8.Cal P w K mg base 19 "answer" (spAct fun _ => True) [] := by
  have nd := (C8.fnScope_by sc_answer).nd
  refine mkCal1 T.d_answer T.m_answer (fun _ _ _ _ _ _ us hl => match us, hl with | [_, _, _], _ => rfl) sc_answer ?len fun cdv A outer s H vs Q E hr h => ⟨_, (pss_cons (ps_if (pt_val (C8.pe_c c_is_order_call hr (by decide) rfl (pa_cons (pv 1) pa_nil))) (pss_one (ps_ret (C8.pe_c c_answer_order_call hr (by decide) rfl (pa_cons (pv 0) (pa_cons (pv 1) (pa_cons (pv 2) pa_nil)))))) pss_nil)
      (pss_cons (ps_if (pt_val (C8.pe_c c_is_machine_call hr (by decide) rfl (pa_cons (pv 1) pa_nil))) (pss_one (ps_ret (C8.pe_c c_answer_machine_call hr (by decide) rfl (pa_cons (pv 0) (pa_cons (pv 1) (pa_cons (pv 2) pa_nil)))))) pss_nil)
      (pss_one (ps_ret (C8.pe_c c_answer_thing_call hr (by decide) rfl (pa_cons (pv 0) (pa_cons (pv 1) (pa_cons (pv 2) pa_nil)))))))), ?body⟩
  case len =>
    rintro vs H Q E ⟨_, _, _, _, rfl, _⟩
    rfl
  case body =>
    obtain ⟨f, q, n, c, rfl, _, A, ok, tb, nf, ar, ro, kk⟩ := h
    refine s_when (t_b (e_call (v := .bl (tabV kvO (numOf c)).isSome) (a_cons e_var a_nil) (by
      rintro _ H2 e2 ⟨_, rfl, rfl⟩ Q2 q2
      exact ⟨_, rfl, q2⟩))) (fun c1 H1 e1 => ?_) fun c1 H1 e1 => ?_
    · show (tCall (spAct isO) [] C8.E0 (tCons (tVar 0) (tCons (tVar 1) (tCons (tVar 2) tNil)))) _ _ _
      refine d_call (a_cons e_var (a_cons e_var (a_cons e_var a_nil))) ?_
      rintro _ H2 e2 ⟨_, rfl, _, rfl, _, rfl, rfl⟩
      have e := e1.trans e2
      exact ⟨f, q, n, c, rfl, c1, A.mono e, ok, e.t tb, nf, ar.mono e, ro, kk.mono e⟩
    · refine s_when (t_b (e_call (v := .bl (tabV kvM (numOf c)).isSome) (a_cons e_var a_nil) (by
        rintro _ H2 e2 ⟨_, rfl, rfl⟩ Q2 q2
        exact ⟨_, rfl, q2⟩))) (fun c2 H2 e2 => ?_) fun c2 H2 e2 => ?_
      · show (tCall (spAct isM) [] C8.E0 (tCons (tVar 0) (tCons (tVar 1) (tCons (tVar 2) tNil)))) _ _ _
        refine d_call (a_cons e_var (a_cons e_var (a_cons e_var a_nil))) ?_
        rintro _ H3 e3 ⟨_, rfl, _, rfl, _, rfl, rfl⟩
        have e := (e1.trans e2).trans e3
        exact ⟨f, q, n, c, rfl, c2, A.mono e, ok, e.t tb, nf, ar.mono e, ro, kk.mono e⟩
      · show (tCall (spAct isT) [] C8.E0 (tCons (tVar 0) (tCons (tVar 1) (tCons (tVar 2) tNil)))) _ _ _
        refine d_call (a_cons e_var (a_cons e_var (a_cons e_var a_nil))) ?_
        rintro _ H3 e3 ⟨_, rfl, _, rfl, _, rfl, rfl⟩
        have e := (e1.trans e2).trans e3
        exact ⟨f, q, n, c, rfl, ⟨c1, c2⟩, A.mono e, ok, e.t tb, nf, ar.mono e, ro, kk.mono e⟩
/-- a call read where it begins -/
def spReadC (K : PySem.W.Frag) : Sp := fun vs H Q _ => ∃ (a : Addr) (pre rest : List Nat) (c : Kyk.Call), vs = [.ref a, nV pre.length] ∧ SqL K H a ((pre ++ (encN c ++ rest)).map nV) ∧ rowOk c ∧
  ∀ n t H2, Nw H n → Xt H H2 → ArgsAt H2 n c → H2 t = some (.tup [.ref n, nV (pre.length + (encN c).length)]) → Q (.ref t) H2
theorem ok_readC (T : Txt K mg) : C8.Cal P w K mg base 1 "read_call" (spReadC K) [] := by
  have nd := (C8.fnScope_by sc_read_call).nd
  refine mkCal1 T.d_read_call T.m_read_call (fun _ _ _ _ _ _ us hl => match us, hl with | [_, _], _ => rfl) sc_read_call ?len fun cdv A outer s H vs Q E hr h => ⟨_, (pss_cons (ps_set (i := 2) nd rfl (Or.inl rfl) (pe_ix ix_list (pv 0) (pv 1) (fun _ _ => rfl)))
      (pss_cons (ps_set (i := 3) nd rfl (Or.inl rfl) (pe_op op_add (pe_op op_add (pv 1) pe_int) (pe_ix ix_tup (C8.pe_gc rfl T.g_PLAIN_NUMBERS) (pv 2) (fun _ _ => rfl))))
      (pss_cons (ps_set (i := 4) nd rfl (Or.inl rfl) (pe_slice sl_list (pv 0) (po_some (pe_op op_add (pv 1) pe_int)) (po_some (pv 3))))
      (pss_cons (ps_if (pt_cmpR op_notIn_seq (pv 2) (C8.pe_gc rfl T.g_CALLS_WITH_ROW) (by rfl)) (pss_one (ps_ret (pe_tup (pa_cons (pv 4) (pa_cons (pv 3) pa_nil))))) pss_nil)
      (pss_cons (ps_set (i := 5) nd rfl (Or.inl rfl) (pe_op op_add (pe_op op_add (pv 3) pe_int) (pe_ix ix_list (pv 0) (pv 3) (fun _ _ => rfl))))
      (pss_one (ps_ret (pe_tup (pa_cons (pe_op op_cat (pv 4) (pe_lst (pa_cons (pe_slice sl_list (pv 0) (po_some (pe_op op_add (pv 3) pe_int)) (po_some (pv 5))) pa_nil))) (pa_cons (pv 5) pa_nil)))))))))), ?body⟩
  case len =>
    rintro vs H Q E ⟨_, _, _, _, rfl, _⟩
    rfl
  case body =>
    obtain ⟨a, pre, rest, c, rfl, hx, ro, kk⟩ := h
    have pl := plain_len c
    have at0 : (pre ++ (encN c ++ rest))[pre.length]? = some (numOf c) := by
      rw [List.getElem?_append_right (Nat.le_refl _), Nat.sub_self]
      rfl
    have pL : (plainOf c).length ≤ 5 := by cases c <;> simp [plainOf]
    refine s_asg (v := nV (numOf c)) (e_at e_var hx e_var (nat_at at0)) fun H1 e1 => ?_
    refine s_asg (v := nV (pre.length + 1 + (plainOf c).length)) (e_is (e_op (e_op e_var e_c rv_i0) (e_op e_c e_var (rv_t (v := nV (plainOf c).length) (T.t_PLAIN_NUMBERS H1) (atI_nat (by
      have := nat_at (t := plainT) pl
      exact this)))) rv_i0) ?_) fun H2 e2 => ?_
    · show V.int _ = V.int _
      congr 1
    · have e12 := e1.trans e2
      have hx2 := sq_mono e12 hx
      have shape : pre ++ (encN c ++ rest) = (pre ++ [numOf c]) ++ (plainOf c ++ (rowN c ++ rest)) := by
        unfold encN
        simp
      refine s_asgN (o := .lst ((plainOf c).map nV)) ?_ fun n H3 nn e3 hn => ?_
      · rw [shape] at hx2
        have := cut_mid nV (pre ++ [numOf c]) (plainOf c) (rowN c ++ rest) (i := pre.length + 1) (j := pre.length + 1 + (plainOf c).length) (by simp) (by simp)
        rw [← this]
        exact n_slice e_var hx2 (o_some (e_is (e_op e_var e_c rv_i0) rfl)) (o_some e_var)
      · have e13 := e12.trans e3
        refine s_when (b := !(rowOf c).isSome) (t_is (t_test (e_op e_var e_c (rv_inT (neg := true) (T.t_CALLS_WITH_ROW H3) rfl rfl))) ?_) (fun c1 H4 e4 => ?_) fun c1 H4 e4 => ?_
        · rw [if_pos rfl]
          congr 1
          have := in_nats (numOf c) [0, 2, 15]
          rw [← row_some c]
          exact this
        · have hr0 : rowOf c = none := by
            cases h : rowOf c with
            | none => rfl
            | some r =>
              rw [h] at c1
              cases c1
          have len : (encN c).length = 1 + (plainOf c).length := by
            unfold encN rowN
            rw [hr0]
            simp
            omega
          refine s_retN (n_tup (v_cons e_var (v_cons e_var v_nil)) (by show 2 ≤ 100000; decide)) fun t H5 nt e5 ht => kk n t H5 (.back e12 nn) ((e13.trans e4).trans e5) ?_ ?_
          · unfold ArgsAt
            rw [hr0]
            exact (e4.trans e5).k _ _ hn nt_lst
          · rw [ht, len]
            congr 5
            omega
        · obtain ⟨r, hr0⟩ : ∃ r, rowOf c = some r := by
            cases h : rowOf c with
            | none =>
              rw [h] at c1
              cases c1
            | some r => exact ⟨r, rfl⟩
          have hrow : rowN c = r.length :: r := by
            unfold rowN
            rw [hr0]
          have len : (encN c).length = 1 + (plainOf c).length + 1 + r.length := by
            unfold encN
            rw [hrow]
            simp
            omega
          have hx4 := sq_mono (e13.trans e4) hx
          have shape2 : pre ++ (encN c ++ rest) = (pre ++ numOf c :: plainOf c) ++ (r.length :: (r ++ rest)) := by
            unfold encN
            rw [hrow]
            simp
          have shape3 : pre ++ (encN c ++ rest) = (pre ++ numOf c :: (plainOf c ++ [r.length])) ++ (r ++ rest) := by
            unfold encN
            rw [hrow]
            simp
          have l1 : (pre ++ numOf c :: plainOf c).length = pre.length + 1 + (plainOf c).length := by
            simp
            omega
          have at1 : (pre ++ (encN c ++ rest))[pre.length + 1 + (plainOf c).length]? = some r.length := by
            rw [shape2, List.getElem?_append_right (by omega), l1, Nat.sub_self]
            rfl
          refine s_asg (v := nV (pre.length + 1 + (plainOf c).length + 1 + r.length)) (e_is (e_op (e_op e_var e_c rv_i0) (e_at e_var hx4 e_var (nat_at at1)) rv_i0) ?_) fun H5 e5 => ?_
          · show V.int _ = V.int _
            congr 1
          · have hx5 := sq_mono e5 hx4
            have hn5 := (e4.trans e5).k _ _ hn nt_lst
            have e15 := (e13.trans e4).trans e5
            rw [shape3] at hx5
            have cut := cut_mid nV (pre ++ numOf c :: (plainOf c ++ [r.length])) r rest (i := pre.length + 1 + (plainOf c).length + 1) (j := pre.length + 1 + (plainOf c).length + 1 + r.length) (by simp; omega) (by simp; omega)
            have R := ro
            unfold rowOk at R
            rw [hr0] at R
            have r200 := R.1
            refine ⟨.ref n, rfl, ?_⟩
            have e6 := Xt.refl H5
            refine (n_slice (K := K) (σ := [some (.ref a), some (nV pre.length), some (nV (numOf c)), some (nV (pre.length + 1 + (plainOf c).length)), some (.ref n), some (nV (pre.length + 1 + (plainOf c).length + 1 + r.length))]) (xs := ((pre ++ numOf c :: (plainOf c ++ [r.length])) ++ (r ++ rest)).map nV) (lo := some ((pre.length + 1 + (plainOf c).length + 1 : Nat) : Int)) (hi := some ((pre.length + 1 + (plainOf c).length + 1 + r.length : Nat) : Int)) (e_var (i := 0) (v := .ref a) rfl) (sq_mono e6 hx5) (o_some (e_is (e_op (e_var (i := 3) (v := nV (pre.length + 1 + (plainOf c).length)) rfl) e_c rv_i0) rfl)) (o_some (e_var (i := 5) rfl)) : EvN _ _ H5 _) H5 (Xt.refl _) _ fun ra H7 nra e7 hra => ?_
            rw [cut] at hra
            refine ⟨szl (by show 1 ≤ 100000; decide), fun p hp => ⟨n, p, (plainOf c).map nV, [.ref ra], rfl, rfl, ?_, upd_same, szl (by rw [List.length_map]; show _ + 1 ≤ _; omega), fun p2 hp2 => ?_⟩⟩
            · exact (Xt.new hp).k _ _ ((e6.trans e7).k _ _ hn5 nt_lst) nt_lst
            · have x7 : Xt H7 (upd (upd H7 p (.lst [.ref ra])) p2 (.lst ((plainOf c).map nV ++ [.ref ra]))) := (Xt.new hp).trans (Xt.new hp2)
              have np2 : Nw H p2 := .back ((e15.trans (e6.trans e7)).trans (Xt.new hp)) (.of hp2)
              refine ⟨_, rfl, szl (by show 2 ≤ 100000; decide), fun t ht => ?_⟩
              have x8 := x7.trans (Xt.new (o := .tup [.ref p2, nV (pre.length + 1 + (plainOf c).length + 1 + r.length)]) ht)
              refine kk p2 t _ np2 ((e15.trans (e6.trans e7)).trans x8) ?_ ?_
              · unfold ArgsAt
                rw [hr0]
                exact ⟨ra, (Xt.new ht).k _ _ upd_same nt_lst, x8.k _ _ hra nt_lst⟩
              · rw [len]
                refine upd_same.trans ?_
                congr 5
                omega
end
end Wash
namespace Wash
open PySem PySem.Spec PyProof.Rows L2
open Kyk (say)
def runA : Kyk.Laundry → List Kyk.Call → List (List Int)
  | _, [] => []
  | q, c :: r => toL (act q c).2 :: runA (act q c).1 r
def toldL (l : List (List Int)) : List Int := l.flatMap fun a => (a.length : Int) :: a
section
variable {P : Program} {w : World} {K : PySem.W.Frag} {mg : Str → Option Value} {base : Heap}
def spAnswers (K : PySem.W.Frag) : Sp := fun vs H Q _ => ∃ (a : Addr) (cs : List Kyk.Call), vs = [.ref a] ∧ (∀ H', (∀ o u, H a = some (.frz o u) → H' a = some (.frz o u)) → SqL K H' a ((cs.flatMap encN).map nV)) ∧ cs.length ≤ 500 ∧ (∀ c ∈ cs, rowOk c) ∧ Tb H ∧
  ∀ p H', H' p = some (.lst ((toldL (runA (freshQ 0 []) cs)).map V.int)) → Q (.ref p) H'
theorem ok_answers (T : Txt K mg) {fA : Addr} {fd : FuncData} (F : C8.Fun K "answers" "answers" s_answers fA fd) (m_House : C8.Mak P w K mg base 4 "House" cHouse spHouseI []) (c_read_call : C8.Cal P w K mg base 1 "read_call" (spReadC K) []) (c_answer : C8.Cal P w K mg base 19 "answer" (spAct fun _ => True) [])
    (ok0 : Ok (freshQ 0 [])) (okS : ∀ q c, Ok q → Ok (act q c).1) (lenS : ∀ q c, Ok q → (toL (act q c).2).length ≤ 159) : FnOk P w K mg base C8.CX0 20 fA fd ["calls"] (spAnswers K) := by
  have nd := (C8.fnScope_by sc_answers).nd
  refine C8.fn0 F (C8.fnScope_by sc_answers) ?len fun cdv A outer s H vs Q E hr h => ⟨_, (pss_cons (ps_set (i := 1) nd rfl (Or.inl rfl) (pe_mk0 m_House hr (by decide) rfl))
      (pss_cons (ps_set (i := 2) nd rfl (Or.inl rfl) (pe_lst pa_nil))
      (pss_cons (ps_set (i := 3) nd rfl (Or.inl rfl) pe_int)
      (pss_cons (ps_while PassesOwn.never (pt_cmpR op_lt (pv 3) (pe_callB call_len_seq (by rfl) T.b_len (by decide +kernel) (pa_cons (pv 0) pa_nil)) (nomark _)) (pss_cons (ps_asg (C8.pe_c c_read_call hr (by decide) rfl (pa_cons (pv 0) (pa_cons (pv 3) pa_nil))) (pg_tup (by rfl) (pgs_cons (pg_name (i := 4) nd rfl (Or.inl rfl)) (pgs_cons (pg_name (i := 5) nd rfl (Or.inl rfl)) pgs_nil))))
      (pss_cons (ps_set (i := 6) nd rfl (Or.inl rfl) (C8.pe_c c_answer hr (by decide) rfl (pa_cons (pv 1) (pa_cons (pe_ix ix_list (pv 0) (pv 3) (fun _ _ => rfl)) (pa_cons (pv 4) pa_nil)))))
      (pss_cons (ps_expr (pe_bm PySem.F.plainAttrs_list PySem.F.slot_list_append PySem.F.type_list_append mt_append (pv 2) (pa_cons (pe_callB call_len_seq (by rfl) T.b_len (by decide +kernel) (pa_cons (pv 6) pa_nil)) pa_nil)))
      (pss_cons (ps_expr (pe_bm PySem.F.plainAttrs_list PySem.F.slot_list_extend PySem.F.type_list_extend mt_extend (pv 2) (pa_cons (pv 6) pa_nil)))
      (pss_one (ps_set (i := 3) nd rfl (Or.inl rfl) (pv 5))))))))
      (pss_one (ps_ret (pv 2))))))), ?body⟩
  case len =>
    rintro vs H Q E ⟨_, _, rfl, _⟩
    rfl
  case body =>
    obtain ⟨a, cs, rfl, hreq, h500, hrow, tb, kk⟩ := h
    refine s_asgR (post := fun p H3 => ∃ f, f.p = p ∧ HousAt H3 f (freshQ 0 [])) (r_make a_nil ?_) fun hp H1 nh e1 hh => ?_
    · rintro _ H2 e2 rfl p dx H3 Q3 np3 e3 hp3 fin3
      exact ⟨p, dx, rfl, hp3, fun H4 f4 b4 fp n4 A4 => fin3 H4 b4 ⟨f4, fp, A4⟩⟩
    obtain ⟨f, rfl, A⟩ := hh
    refine s_asgN (o := .lst []) (n_lst v_nil (by show 0 ≤ 100000; decide)) fun td H2 ntd e2 htd => ?_
    refine s_asg (v := nV 0) e_c fun H3 e3 => ?_
    have e13 := e1.trans (e2.trans e3)
    have tdF : td ∉ Foot f := fun z => by
      obtain ⟨xs, e⟩ := foot_lst A z
      exact ntd _ e nt_lst
    refine ⟨fun m σ H' => ∃ dn rs f' q' tl s4 s5 s6, dn ++ rs = cs ∧ m = rs.length ∧ σ = [some (.ref a), some (.ref f.p), some (.ref td), some (nV (dn.flatMap encN).length), s4, s5, s6] ∧ f'.p = f.p ∧ HousAt H' f' q' ∧ Ok q' ∧ Tb H' ∧ td ∉ Foot f' ∧ H' td = some (.lst (tl.map V.int)) ∧
      tl ++ toldL (runA q' rs) = toldL (runA (freshQ 0 []) cs) ∧ tl.length ≤ 160 * dn.length ∧ ∀ o u, H a = some (.frz o u) → H' a = some (.frz o u), ?_, ?_⟩
    · exact ⟨cs.length, [], cs, f, freshQ 0 [], [], none, none, none, rfl, rfl, rfl, rfl, A.mono (e2.trans e3), ok0, e13.t tb, tdF, e3.k _ _ htd nt_lst, rfl, Nat.le_refl _, fun o u h => e13.k _ _ h nt_frz⟩
    · rintro m σ H4 ⟨dn, rs, f', q', tl, s4, s5, s6, hcs, rfl, rfl, fp, A4, ok4, tb4, td4, htd4, htl, hln, fz⟩
      have hx4 := hreq H4 fz
      have lenE : (cs.flatMap encN).length = (dn.flatMap encN).length + (rs.flatMap encN).length := by
        rw [← hcs, List.flatMap_append, List.length_append]
      refine (t_is (b := decide ((dn.flatMap encN).length < (cs.flatMap encN).length)) (t_test (e_op (x := nV (dn.flatMap encN).length) (y := nV (cs.flatMap encN).length) e_var (e_is (e_len e_var hx4) (by rw [List.length_map])) rv_i0)) (decide_eq_decide.mpr Int.ofNat_lt)) H4 (Xt.refl _) _ fun H5 e5 => ?_
      cases rs with
      | nil =>
        have : ¬ (dn.flatMap encN).length < (cs.flatMap encN).length := by
          rw [lenE]
          exact Nat.lt_irrefl _
        rw [if_neg (by rw [decide_eq_true_eq]; exact this)]
        have htl2 : tl = toldL (runA (freshQ 0 []) cs) := by
          rw [← htl]
          show tl = tl ++ []
          rw [List.append_nil]
        refine ⟨.ref td, rfl, kk td H5 ?_⟩
        rw [← htl2]
        exact e5.k _ _ htd4 nt_lst
      | cons c rs =>
        have e1c : 1 ≤ (encN c).length := by
          unfold encN
          simp
        have : (dn.flatMap encN).length < (cs.flatMap encN).length := by
          rw [lenE, List.flatMap_cons, List.length_append]
          omega
        rw [if_pos (decide_eq_true this)]
        refine ⟨fun σ H' => ∃ q' f' tl s4 s5 s6, σ = [some (.ref a), some (.ref f.p), some (.ref td), some (nV ((dn ++ [c]).flatMap encN).length), s4, s5, s6] ∧ f'.p = f.p ∧ HousAt H' f' q' ∧ Ok q' ∧ Tb H' ∧ td ∉ Foot f' ∧ H' td = some (.lst (tl.map V.int)) ∧
          tl ++ toldL (runA q' rs) = toldL (runA (freshQ 0 []) cs) ∧ tl.length ≤ 160 * (dn ++ [c]).length ∧ ∀ o u, H a = some (.frz o u) → H' a = some (.frz o u), fun σ' H' h => ?_, ?_⟩
        · obtain ⟨q', f', tl, s4, s5, s6, r1, r2⟩ := h
          exact ⟨rs.length, Nat.lt_succ_self _, dn ++ [c], rs, f', q', tl, s4, s5, s6, by rw [List.append_assoc]; exact hcs, rfl, r1, r2⟩
        · have hsplit : (cs.flatMap encN) = dn.flatMap encN ++ (encN c ++ rs.flatMap encN) := by
            rw [← hcs, List.flatMap_append, List.flatMap_cons]
          have hx5 : SqL K H5 a ((dn.flatMap encN ++ (encN c ++ rs.flatMap encN)).map nV) := by
            rw [← hsplit]
            exact sq_mono e5 hx4
          have roc := hrow c (by rw [← hcs]; simp)
          show (tCall (spReadC K) [] C8.E0 (tCons (tVar 0) (tCons (tVar 3) tNil))) _ _ _
          refine d_call (a_cons e_var (a_cons e_var a_nil)) ?_
          rintro _ H6 e6 ⟨_, rfl, _, rfl, rfl⟩
          refine ⟨a, dn.flatMap encN, rs.flatMap encN, c, rfl, sq_mono e6 hx5, roc, fun n t H7 nn e7 har ht => ?_⟩
          refine ⟨t, _, rfl, SqT.of ht, rfl, .ref n, [_], rfl, _, [], rfl, rfl, ?_⟩
          have e47 := e5.trans (e6.trans e7)
          have A7 := A4.mono e47
          have nF : n ∉ Foot f' := fun z => by
            obtain ⟨xs, e⟩ := foot_lst (A4.mono (e5.trans e6)) z
            exact nn _ e nt_lst
          have at0 : (dn.flatMap encN ++ (encN c ++ rs.flatMap encN))[(dn.flatMap encN).length]? = some (numOf c) := by
            rw [List.getElem?_append_right (Nat.le_refl _), Nat.sub_self]
            rfl
          show (tCall (spAct fun _ => True) [] C8.E0 (tCons (tVar 1) (tCons (tOp (rIxL K) (tVar 0) (tVar 3)) (tCons (tVar 4) tNil)))) _ _ _
          refine d_call (a_cons (x := .ref f.p) e_var (a_cons (e_at (a := a) (i := (dn.flatMap encN).length) e_var (sq_mono (e6.trans e7) hx5) e_var (nat_at at0)) (a_cons (x := .ref n) e_var a_nil))) ?_
          rintro _ H8 e8 ⟨_, rfl, _, rfl, _, rfl, rfl⟩
          refine ⟨f', q', n, c, by rw [fp], trivial, A7.mono e8, ok4, (e47.trans e8).t tb4, nF, har.mono e8, roc, fun H9 f9 p fp9 k9 A9 hp9 np9 nf9 => ?_⟩
          have e48 := e47.trans e8
          obtain ⟨htd9, td9⟩ := k9.l td _ td4 (e48.k _ _ htd4 nt_lst)
          have ptd : p ≠ td := np9 td _ td4 (e48.k _ _ htd4 nt_lst)
          have fz9 : ∀ o u, H a = some (.frz o u) → H9 a = some (.frz o u) := fun o u h => k9.z _ _ _ (e48.k _ _ (fz o u h) nt_frz)
          have tb9 := k9.t (e48.t tb4)
          have lc := lenS q' c ok4
          have dl : dn.length ≤ 499 := by
            have := congrArg List.length hcs
            rw [List.length_append, List.length_cons] at this
            omega
          have x0 := Xt.refl H9
          refine ⟨.ref td, rfl, .inl ⟨rfl, _, SqL.of htd9⟩, ?_⟩
          refine (a_cons (x := nV (toL (act q' c).2).length) (e_is (e_len (a := p) (e_var (i := 6) rfl) (SqL.of hp9)) (by rw [List.length_map])) a_nil) H9 x0 _ fun vs Hb eb hv => ?_
          obtain ⟨_, rfl, rfl⟩ := hv
          have htdb := eb.k _ _ htd9 nt_lst
          have bb : Xb td Hb (upd Hb td (.lst (tl.map V.int ++ [nV (toL (act q' c).2).length]))) := Xb.upd htdb nt_lst nl
          have hb : (upd Hb td (.lst (tl.map V.int ++ [nV (toL (act q' c).2).length]))) td = _ := upd_same
          refine ⟨td, _, _, rfl, rfl, htdb, szlt (by rw [List.length_map]; omega), ?_⟩
          generalize upd Hb td (.lst (tl.map V.int ++ [nV (toL (act q' c).2).length])) = Hc at bb hb
          have Ac := (A9.mono eb).out htdb td9 bb
          have hpc := bb.k _ _ ptd (eb.k _ _ hp9 nt_lst) nt_lst
          have fzc : ∀ o u, H a = some (.frz o u) → Hc a = some (.frz o u) := fun o u h => bb.k _ _ (ne_of (eb.k _ _ (fz9 o u h) nt_frz) htdb (by intro z; cases z)) (eb.k _ _ (fz9 o u h) nt_frz) nt_frz
          have tbc := bb.t (eb.t tb9)
          refine ⟨.ref td, rfl, .inl ⟨rfl, _, SqL.of hb⟩, ?_⟩
          refine (a_cons (x := .ref p) (e_var (i := 6) rfl) a_nil) Hc (Xt.refl _) _ fun vs Hd ed hv => ?_
          obtain ⟨_, rfl, rfl⟩ := hv
          have htdd := ed.k _ _ hb nt_lst
          have hpd := ed.k _ _ hpc nt_lst
          refine ⟨td, p, _, _, rfl, rfl, htdd, hpd, szl (by rw [List.length_append, List.length_map, List.length_map]; show _ + 1 + _ ≤ _; omega), ?_⟩
          have be : Xb td Hd (upd Hd td (.lst ((tl.map V.int ++ [nV (toL (act q' c).2).length]) ++ (toL (act q' c).2).map V.int))) := Xb.upd htdd nt_lst nl
          have he : (upd Hd td (.lst ((tl.map V.int ++ [nV (toL (act q' c).2).length]) ++ (toL (act q' c).2).map V.int))) td = _ := upd_same
          generalize upd Hd td (.lst ((tl.map V.int ++ [nV (toL (act q' c).2).length]) ++ (toL (act q' c).2).map V.int)) = He at be he
          refine ⟨nV ((dn.flatMap encN).length + (encN c).length), rfl, (act q' c).1, f9, tl ++ (((toL (act q' c).2).length : Int) :: toL (act q' c).2), some (.ref n), some (nV ((dn.flatMap encN).length + (encN c).length)), some (.ref p), ?_, fp9.trans fp, (Ac.mono ed).out htdd td9 be, okS q' c ok4, be.t (ed.t tbc), td9, ?_, ?_, ?_, fun o u h => be.k _ _ (ne_of (ed.k _ _ (fzc o u h) nt_frz) htdd (by intro z; cases z)) (ed.k _ _ (fzc o u h) nt_frz) nt_frz⟩
          · rw [List.flatMap_append, List.length_append]
            show [_, _, _, _, _, _, _] = [_, _, _, _, _, _, _]
            congr 6
            simp
          · rw [he]
            congr 2
            rw [List.map_append, List.map_cons, List.append_assoc]
            rfl
          · rw [← htl]
            show tl ++ _ ++ _ = tl ++ toldL (toL (act q' c).2 :: runA (act q' c).1 rs)
            unfold toldL
            rw [List.flatMap_cons, List.append_assoc]
          · rw [List.length_append, List.length_append, List.length_cons]
            show _ ≤ 160 * (dn.length + 1)
            omega
end
end Wash
/-! What every laundry keeps is kept by every call. -/
namespace Wash
open Kyk (say)
theorem fresh_ok {p : Nat} {b : List Nat} (hp : p ≤ 1000) (hb : b.length ≤ 4) : Ok (freshQ p b) where
  ord := fun y h => nomatch h
  lab := fun y h => nomatch h
  tog := fun y h => nomatch h
  plc := fun y h => nomatch h
  nit := Nat.zero_le _
  nor := Nat.zero_le _
  nma := by show (b.map newM).length ≤ 4; rw [List.length_map]; exact hb
  lod := fun m hm i hi => by
    obtain ⟨x, _, rfl⟩ := List.mem_map.mp hm
    exact nomatch hi
  ndl := by
    have : (b.map newM).flatMap (·.load) = [] := List.flatMap_eq_nil_iff.mpr fun m hm => by
      obtain ⟨x, _, rfl⟩ := List.mem_map.mp hm
      rfl
    show ((b.map newM).flatMap (·.load)).Nodup
    rw [this]
    exact List.nodup_nil
  brk := fun m hm h => by
    obtain ⟨x, _, rfl⟩ := List.mem_map.mp hm
    rfl
  wgt := fun y h => nomatch h
  prc := hp
  prg := fun m hm h => by
    obtain ⟨x, _, rfl⟩ := List.mem_map.mp hm
    exact absurd rfl h
theorem placed_mem {items : List Kyk.Item} {l : List Nat} {p : Nat} {y : Kyk.Item} (h : y ∈ Kyk.placed items l p) : ∃ z ∈ items, y.x = z.x ∧ y.w = z.w ∧ y.order = z.order ∧ (y.place = z.place ∨ y.place = p) := by
  obtain ⟨j, hj⟩ := List.mem_iff_getElem?.mp h
  rw [placed_get] at hj
  obtain ⟨z, hz, rfl⟩ := Option.map_eq_some_iff.mp hj
  refine ⟨z, List.mem_of_getElem? hz, ?_⟩
  split
  · exact ⟨rfl, rfl, rfl, .inr rfl⟩
  · exact ⟨rfl, rfl, rfl, .inl rfl⟩
/-- places set, machines changed -/
theorem ok_place2 {q : Kyk.Laundry} (ok : Ok q) {l : List Nat} {p : Nat} {ms : List Kyk.Machine} {t : Nat} (hp : p ≤ 2) (nma : ms.length ≤ 4)
    (lod : ∀ m ∈ ms, ∀ i ∈ m.load, ∃ y, q.items[i]? = some y ∧ (Kyk.order q y.order).state = 1 ∧ ((l.contains i = false ∧ y.place = 1) ∨ (l.contains i = true ∧ p = 1)))
    (ndl : (ms.flatMap (·.load)).Nodup) (brk : ∀ m ∈ ms, m.broken = true → m.load = []) (prg : ∀ m ∈ ms, m.load ≠ [] → m.p.heat ∈ Kyk1.heats) : Ok { q with now := t, items := Kyk.placed q.items l p, machines := ms } where
  ord := fun y h => by
    obtain ⟨z, hz, _, _, e, _⟩ := placed_mem h
    rw [e]
    exact ok.ord z hz
  lab := fun y h => by
    obtain ⟨z, hz, e, _⟩ := placed_mem h
    rw [e]
    exact ok.lab z hz
  tog := fun y h => by
    obtain ⟨z, hz, e, _⟩ := placed_mem h
    rw [e]
    exact ok.tog z hz
  plc := fun y h => by
    obtain ⟨z, hz, _, _, _, e⟩ := placed_mem h
    have := ok.plc z hz
    omega
  nit := by show (Kyk.placed q.items l p).length ≤ 150; rw [placed_len]; exact ok.nit
  nor := ok.nor
  nma := nma
  lod := fun m hm i hi => by
    obtain ⟨y, hy, hs, h⟩ := lod m hm i hi
    refine ⟨if l.contains i then setP p y else y, ?_, ?_, ?_⟩
    · show (Kyk.placed q.items l p)[i]? = _
      rw [placed_get, hy]
      rfl
    · rcases h with ⟨h1, h2⟩ | ⟨h1, h2⟩
      · rw [h1]
        exact h2
      · rw [h1]
        exact h2
    · have : (if l.contains i then setP p y else y).order = y.order := by split <;> rfl
      rw [this]
      exact hs
  ndl := ndl
  brk := brk
  wgt := fun y h => by
    obtain ⟨z, hz, _, e, _⟩ := placed_mem h
    rw [e]
    exact ok.wgt z hz
  prc := ok.prc
  prg := prg
theorem not_both {α β : Type} [DecidableEq β] {g : α → List β} {p : α → Bool} {i : β} : ∀ {l : List α}, (l.flatMap g).Nodup → ∀ {x : α}, x ∈ l → p x = false → i ∈ g x → i ∈ (l.filter p).flatMap g → False
  | [], _, _, h, _, _, _ => nomatch h
  | a :: l, nd, x, h, hp, hi, hf => by
    rw [List.flatMap_cons, List.nodup_append] at nd
    obtain ⟨n1, n2, n3⟩ := nd
    have sub : ∀ {z}, z ∈ (l.filter p).flatMap g → z ∈ l.flatMap g := fun {z} hz => by
      obtain ⟨y, hy, hz⟩ := List.mem_flatMap.mp hz
      exact List.mem_flatMap.mpr ⟨y, (List.mem_filter.mp hy).1, hz⟩
    rcases List.mem_cons.mp h with rfl | h
    · rw [List.filter_cons, if_neg (by rw [hp]; exact Bool.false_ne_true)] at hf
      exact n3 _ hi _ (sub hf) rfl
    · rw [List.filter_cons] at hf
      split at hf
      · rw [List.flatMap_cons] at hf
        rcases List.mem_append.mp hf with hf | hf
        · exact n3 _ hf _ (List.mem_flatMap.mpr ⟨x, h, hi⟩) rfl
        · exact not_both n2 h hp hi hf
      · exact not_both n2 h hp hi hf
theorem over_sub {t : Nat} : ∀ l : List Kyk.Machine, ((l.map (overM t)).flatMap (·.load)).Sublist (l.flatMap (·.load))
  | [] => List.Sublist.refl _
  | m :: l => by
    rw [List.map_cons, List.flatMap_cons, List.flatMap_cons]
    refine List.Sublist.append ?_ (over_sub l)
    unfold overM
    split
    · exact List.nil_sublist _
    · exact List.Sublist.refl _
theorem till_ok {q : Kyk.Laundry} (ok : Ok q) (t : Nat) : Ok (Kyk.till q t) := by
  refine ok_place2 (ms := q.machines.map (overM t)) (l := overL t q.machines) ok (Nat.le_refl 2) (by rw [List.length_map]; exact ok.nma) (fun m hm i hi => ?_) (ok.ndl.sublist (over_sub _)) (fun m hm h => ?_) fun m hm h => ?_
  · obtain ⟨x, hx, rfl⟩ := List.mem_map.mp hm
    unfold overM at hi
    cases c : Kyk.ready t x with
    | true =>
      rw [c, if_pos rfl] at hi
      exact nomatch hi
    | false =>
      rw [c, if_neg Bool.false_ne_true] at hi
      obtain ⟨y, h1, h2, h3⟩ := ok.lod x hx i hi
      refine ⟨y, h1, h3, .inl ⟨?_, h2⟩⟩
      cases z : (overL t q.machines).contains i with
      | false => rfl
      | true => exact (not_both ok.ndl hx c hi (List.contains_iff_mem.mp z)).elim
  · obtain ⟨x, hx, rfl⟩ := List.mem_map.mp hm
    unfold overM at h ⊢
    split at h
    · rename_i c
      rw [if_pos c]
      rfl
    · rename_i c
      rw [if_neg c]
      exact ok.brk x hx h
  · obtain ⟨x, hx, rfl⟩ := List.mem_map.mp hm
    unfold overM at h ⊢
    split at h
    · exact absurd rfl h
    · rename_i c
      rw [if_neg c]
      exact ok.prg x hx h
theorem split_at {α : Type} {l : List α} {k : Nat} {m : α} (h : l[k]? = some m) : ∃ l1 l2, l = l1 ++ m :: l2 ∧ ∀ m', l.set k m' = l1 ++ m' :: l2 := by
  obtain ⟨hk, rfl⟩ := List.getElem?_eq_some_iff.mp h
  refine ⟨l.take k, l.drop (k + 1), ?_, fun m' => ?_⟩
  · rw [← List.drop_eq_getElem_cons hk, List.take_append_drop]
  · rw [List.set_eq_take_append_cons_drop, if_pos hk]
theorem ok_mach {q : Kyk.Laundry} (ok : Ok q) {k : Nat} {m m' : Kyk.Machine} {l : List Nat} {p : Nat} (hm : q.machines[k]? = some m) (hp : p ≤ 2) (hl : m'.load = [] ∧ l = m.load ∨ m.load = [] ∧ m'.load = l ∧ p = 1 ∧ l.Nodup ∧ m'.broken = false ∧ m'.p.heat ∈ Kyk1.heats ∧ ∀ i ∈ l, ∃ y, q.items[i]? = some y ∧ y.place = 0 ∧ (Kyk.order q y.order).state = 1) :
    Ok { q with items := Kyk.placed q.items l p, machines := q.machines.set k m' } := by
  obtain ⟨l1, l2, e1, e2⟩ := split_at hm
  have nd := ok.ndl
  rw [e1, List.flatMap_append, List.flatMap_cons] at nd
  have mem1 : ∀ x, x ∈ l1 ∨ x ∈ l2 → x ∈ q.machines := fun x hx => by
    rw [e1, List.mem_append, List.mem_cons]
    rcases hx with hx | hx
    · exact .inl hx
    · exact .inr (.inr hx)
  have mmem : m ∈ q.machines := List.mem_of_getElem? hm
  have inS : ∀ x, x ∈ q.machines.set k m' → x = m' ∨ (x ∈ l1 ∨ x ∈ l2) := fun x hx => by
    rw [e2, List.mem_append, List.mem_cons] at hx
    rcases hx with hx | rfl | hx
    · exact .inr (.inl hx)
    · exact .inl rfl
    · exact .inr (.inr hx)
  have apart : ∀ x, x ∈ l1 ∨ x ∈ l2 → ∀ i ∈ x.load, i ∉ m.load := fun x hx i hi hc => by
    rw [List.nodup_append] at nd
    obtain ⟨_, n2, n3⟩ := nd
    rw [List.nodup_append] at n2
    rcases hx with hx | hx
    · exact n3 i (List.mem_flatMap.mpr ⟨x, hx, hi⟩) i (List.mem_append_left _ hc) rfl
    · exact n2.2.2 i hc i (List.mem_flatMap.mpr ⟨x, hx, hi⟩) rfl
  refine ok_place2 ok (t := q.now) hp (by rw [List.length_set]; exact ok.nma) (fun x hx i hi => ?_) ?_ (fun x hx h => ?_) fun x hx h => ?_
  · rcases inS x hx with rfl | hx'
    · rcases hl with ⟨h1, _⟩ | ⟨_, h1, h2, _, _, _, h3⟩
      · rw [h1] at hi
        exact nomatch hi
      · rw [h1] at hi
        obtain ⟨y, g1, _, g3⟩ := h3 i hi
        exact ⟨y, g1, g3, .inr ⟨List.contains_iff_mem.mpr hi, h2⟩⟩
    · obtain ⟨y, g1, g2, g3⟩ := ok.lod x (mem1 x hx') i hi
      refine ⟨y, g1, g3, .inl ⟨?_, g2⟩⟩
      cases z : l.contains i with
      | false => rfl
      | true =>
        have z := List.contains_iff_mem.mp z
        rcases hl with ⟨_, h1⟩ | ⟨_, _, _, _, _, _, h3⟩
        · rw [h1] at z
          exact absurd z (apart x hx' i hi)
        · obtain ⟨y', g4, g5, _⟩ := h3 i z
          rw [g1] at g4
          cases g4
          omega
  · rw [e2, List.flatMap_append, List.flatMap_cons]
    rcases hl with ⟨h1, _⟩ | ⟨h0, h1, _, h4, _, _, h3⟩
    · rw [h1]
      refine nd.sublist (List.Sublist.append (List.Sublist.refl _) ?_)
      exact List.sublist_append_right _ _
    · rw [h0, List.nil_append] at nd
      rw [h1]
      have fresh : ∀ i ∈ l, i ∉ l1.flatMap (·.load) ∧ i ∉ l2.flatMap (·.load) := fun i hi => by
        obtain ⟨y', g4, g5, _⟩ := h3 i hi
        refine ⟨fun z => ?_, fun z => ?_⟩ <;>
        · obtain ⟨x, hx, hz⟩ := List.mem_flatMap.mp z
          obtain ⟨y, g1, g2, _⟩ := ok.lod x (mem1 x (by first | exact .inl hx | exact .inr hx)) i hz
          rw [g1] at g4
          cases g4
          omega
      rw [List.nodup_append] at nd ⊢
      obtain ⟨n1, n2, n3⟩ := nd
      refine ⟨n1, ?_, fun a ha b hb e => ?_⟩
      · rw [List.nodup_append]
        exact ⟨h4, n2, fun a ha b hb e => (fresh a ha).2 (by rw [e]; exact hb)⟩
      · rcases List.mem_append.mp hb with hb | hb
        · exact (fresh b hb).1 (by rw [← e]; exact ha)
        · exact n3 a ha b hb e
  · rcases inS x hx with rfl | hx'
    · rcases hl with ⟨h1, _⟩ | ⟨_, _, _, _, h1, _⟩
      · exact h1
      · rw [h1] at h
        cases h
    · exact ok.brk x (mem1 x hx') h
  · rcases inS x hx with rfl | hx'
    · rcases hl with ⟨h1, _⟩ | ⟨_, _, _, _, _, h1, _⟩
      · exact absurd h1 h
      · exact h1
    · exact ok.prg x (mem1 x hx') h
theorem loadOf_nd (q : Kyk.Laundry) (k j : Nat) : (Kyk.loadOf q k j).Nodup := by
  have wn : (Kyk.waiting q).Nodup := (waiting_perm q).nodup_iff.mpr (waitL_nd q)
  have cn : (Kyk.chosen q k).Nodup := wn.sublist ((List.take_sublist _ _).trans List.filter_sublist)
  cases hs : Kyk.shares q k with
  | none =>
    unfold Kyk.loadOf
    rw [hs]
    exact List.nodup_nil
  | some x =>
    rw [loadOf_eq (c := x.1) (b := x.2) hs]
    refine List.Nodup.sublist ?_ cn
    refine (List.Sublist.map _ List.filter_sublist).trans ?_
    have zl : ∀ (l b : List Nat), ((l.zip b).map (·.1)).Sublist l := fun l => by
      induction l with
      | nil => intro b; exact List.Sublist.refl _
      | cons a l ih =>
        intro b
        cases b with
        | nil => exact List.nil_sublist _
        | cons c b => exact (ih b).cons_cons a
    exact zl _ _
theorem wait_facts {q : Kyk.Laundry} {i : Nat} (h : waitsB q (Kyk.item q i) = true) (hi : i < q.items.length) : ∃ y, q.items[i]? = some y ∧ y.place = 0 ∧ (Kyk.order q y.order).state = 1 := by
  obtain ⟨y, hy⟩ := lt_get hi
  rw [item_get hy] at h
  unfold waitsB at h
  rw [Bool.and_eq_true, beq_iff_eq, beq_iff_eq] at h
  exact ⟨y, hy, h.1, h.2⟩
theorem run_ok {q : Kyk.Laundry} (ok : Ok q) (k j : Nat) : Ok (runQ q k j).1 := by
  unfold runQ
  split
  · exact ok
  · rename_i c
    obtain ⟨c1, c2, c3, c4⟩ := refusal_ok c
    split
    · exact ok
    · exact ok
    · rename_i x x' i l p hL hP
      obtain ⟨m, hm⟩ := lt_get (l := q.machines) (i := k) (by omega)
      rw [machine_get hm] at c2 c3 ⊢
      have hne : Kyk.chosen q k ≠ [] := fun z => by
        rw [z] at c4
        cases c4
      obtain ⟨cc, b, hs, _, _, hg, _⟩ := shares_some ok hne
      obtain ⟨p', hp', hh⟩ := loadOf_prog (j := j) hs hg (by rw [hL]; exact List.cons_ne_nil _ _)
      rw [hL] at hp'
      have : some p = some p' := by
        rw [← hP, ← hp', hL]
      cases this
      have hl0 : m.load = [] := by
        unfold Kyk.runs at c3
        simpa using c3
      refine ok_mach ok hm (by decide) (.inr ⟨hl0, rfl, rfl, ?_, c2, hh, fun z hz => ?_⟩)
      · rw [← hL]
        exact loadOf_nd q k j
      · rw [← hL] at hz
        have h1 := (chosen_of q k).mem z (loadOf_mem hz)
        exact wait_facts h1.2.2 h1.1
end Wash
namespace Wash
open Kyk (say)
theorem order_app {q : Kyk.Laundry} {y : Kyk.Order} {o : Nat} (h : o < q.orders.length) : Kyk.order { q with orders := q.orders ++ [y] } o = Kyk.order q o := by
  unfold Kyk.order
  show (q.orders ++ [y]).getD o _ = _
  rw [List.getD_eq_getElem?_getD, List.getD_eq_getElem?_getD, List.getElem?_append_left h]
theorem order_ok {q : Kyk.Laundry} (ok : Ok q) (d : Nat) : Ok (orderQ q d).1 := by
  unfold orderQ
  split
  · exact ok
  · split
    · exact ok
    · rename_i c
      have nor := ok.nor
      refine { ok with ord := fun z hz => ?_, nor := ?_, lod := fun m hm i hi => ?_ }
      · show z.order < (q.orders ++ [_]).length
        rw [List.length_append]
        have := ok.ord z hz
        exact Nat.lt_add_right _ this
      · show (q.orders ++ [_]).length ≤ 60
        rw [List.length_append]
        show _ + 1 ≤ 60
        omega
      · obtain ⟨y, h1, h2, h3⟩ := ok.lod m hm i hi
        refine ⟨y, h1, h2, ?_⟩
        rw [order_app (ok.ord y (List.mem_of_getElem? h1))]
        exact h3
theorem one_tog {x : Kyk1.Thing} {w d : Nat} (h : Kyk2.load d [⟨x, w⟩] = true) : Kyk1.together [x] = true := (Bool.and_eq_true_iff.mp h).1
theorem add_ok {q : Kyk.Laundry} (ok : Ok q) (o n k r w : Nat) (t : List Nat) : Ok (addQ q o n k r w t).1 := by
  unfold addQ
  split
  · exact ok
  · rename_i c
    split
    · exact ok
    · rename_i x hx
      split
      · exact ok
      · rename_i c2
        obtain ⟨_, y, hy, _⟩ := stRef_neg c
        obtain ⟨g1, g2, g3⟩ := thgRef_ok c2
        obtain ⟨_, _, hw⟩ := rng_runs g1
        have nit := ok.nit
        have tog : Kyk1.together [(⟨x, n, k, r == 1⟩ : Kyk1.Thing)] = true := by
          unfold Kyk.canBe at g2
          obtain ⟨m, _, hm⟩ := List.any_eq_true.mp g2
          exact one_tog hm
        have mem : ∀ z, z ∈ q.items ++ [(⟨⟨x, n, k, r == 1⟩, w, o, 0⟩ : Kyk.Item)] → z ∈ q.items ∨ z = ⟨⟨x, n, k, r == 1⟩, w, o, 0⟩ := fun z hz => by
          rcases List.mem_append.mp hz with hz | hz
          · exact .inl hz
          · exact .inr (by simpa using hz)
        refine { ord := fun z hz => ?_, lab := fun z hz => ?_, tog := fun z hz => ?_, plc := fun z hz => ?_, nit := ?_, nor := ok.nor, nma := ok.nma, lod := fun m hm i hi => ?_, ndl := ok.ndl, brk := ok.brk, wgt := fun z hz => ?_, prc := ok.prc, prg := ok.prg }
        · rcases mem z hz with hz | rfl
          · exact ok.ord z hz
          · exact (List.getElem?_eq_some_iff.mp hy).1
        · rcases mem z hz with hz | rfl
          · exact ok.lab z hz
          · exact (told_read hx).1
        · rcases mem z hz with hz | rfl
          · exact ok.tog z hz
          · exact tog
        · rcases mem z hz with hz | rfl
          · exact ok.plc z hz
          · exact Nat.zero_le _
        · show (q.items ++ [_]).length ≤ 150
          rw [List.length_append]
          show _ + 1 ≤ 150
          omega
        · obtain ⟨z, h1, h2, h3⟩ := ok.lod m hm i hi
          refine ⟨z, ?_, h2, h3⟩
          show (q.items ++ [_])[i]? = _
          rw [List.getElem?_append_left (List.getElem?_eq_some_iff.mp h1).1]
          exact h1
        · rcases mem z hz with hz | rfl
          · exact ok.wgt z hz
          · exact hw
theorem of_order {q : Kyk.Laundry} {o : Nat} {z : Kyk.Item} (hz : z ∈ q.items) (e : z.order = o) : ∃ i ∈ Kyk.ofOrder q o, Kyk.item q i = z := by
  have : z ∈ (Kyk.ofOrder q o).map (Kyk.item q) := by
    rw [ofOrder_map]
    exact List.mem_filter.mpr ⟨hz, by simpa using e⟩
  obtain ⟨i, hi, h⟩ := List.mem_map.mp this
  exact ⟨i, hi, h⟩
theorem all_place {q : Kyk.Laundry} {o p : Nat} (h : ¬ (Kyk.ofOrder q o).any (fun i => (Kyk.item q i).place != p) = true) : ∀ z ∈ q.items, z.order = o → z.place = p := fun z hz e => by
  obtain ⟨i, hi, ei⟩ := of_order hz e
  rw [List.any_eq_true] at h
  by_cases c : z.place = p
  · exact c
  · exact absurd ⟨i, hi, by rw [ei]; exact bne_iff_ne.mpr c⟩ h
theorem act_ok (q : Kyk.Laundry) (c : Kyk.Call) (ok : Ok q) : Ok (act q c).1 := by
  cases c with
  | start p b =>
    show Ok (startQ q p b).1
    unfold startQ
    split
    · exact ok
    · rename_i h
      unfold Kyk.okStart at h
      simp only [Bool.not_eq_false, Bool.and_eq_true, decide_eq_true_eq] at h
      exact fresh_ok h.1.1.1 h.1.2
  | order d => exact order_ok ok d
  | add o t n k r w => exact add_ok ok o n k r w t
  | close o =>
    show Ok (closeQ q o).1
    unfold closeQ
    split
    · exact ok
    · rename_i c
      split
      · exact ok
      · obtain ⟨_, y, hy, hs⟩ := stRef_neg c
        refine ok_set ok hy (.inl fun z => ?_)
        rw [z] at hs
        cases hs
  | plan k => exact ok
  | run k j => exact run_ok ok k j
  | tick t =>
    show Ok (tickQ q t).1
    unfold tickQ
    split
    · exact ok
    · exact till_ok ok t
  | broken k o =>
    show Ok (brokenQ q k o).1
    unfold brokenQ
    split
    · exact ok
    · split
      · exact ok
      · split
        · exact ok
        · rename_i c _ _
          obtain ⟨m, hm⟩ := lt_get (l := q.machines) (i := k) (by omega)
          rw [machine_get hm]
          exact ok_mach ok hm (by decide) (.inl ⟨rfl, rfl⟩)
  | pack o =>
    show Ok (packQ q o).1
    unfold packQ
    split
    · exact ok
    · rename_i c
      split
      · exact ok
      · rename_i c2
        obtain ⟨_, y, hy, hs⟩ := stRef_neg c
        refine ok_set ok hy (.inr fun z hz e => ?_)
        rw [all_place c2 z hz e]
        decide
  | hand o =>
    show Ok (handQ q o).1
    unfold handQ
    split
    · exact ok
    · rename_i c
      obtain ⟨_, y, hy, hs⟩ := stRef_neg c
      have := ok_set (s := 3) ok hy (.inl fun z => by rw [z] at hs; cases hs)
      exact { this with }
  | cancel o =>
    show Ok (cancelQ q o).1
    unfold cancelQ
    split
    · exact ok
    · rename_i c
      split
      · exact ok
      · rename_i c2
        obtain ⟨_, y, hy, hs⟩ := stRef_neg c
        refine ok_set ok hy (.inr fun z hz e => ?_)
        rw [all_place c2 z hz e]
        decide
  | bill o => exact ok
  | where_ i => exact ok
  | label i => exact ok
  | thing i => exact ok
  | apart l => exact ok
  | waiting => exact ok
  | machine k => exact ok
  | inside k => exact ok
  | state o => exact ok
  | late => exact ok
  | next => exact ok
  | till => exact ok
  | all => exact ok
theorem toL_len (a : Kyk.Ans) : (toL a).length = a.out.length + 1 := by
  unfold toL KykNeutral.ints
  rw [List.length_cons, List.length_map]
theorem out_len (q : Kyk.Laundry) (c : Kyk.Call) (ok : Ok q) : (act q c).2.out.length ≤ 158 := by
  have nit := ok.nit
  have nor := ok.nor
  have wl := waiting_len q
  cases c with
  | start p b =>
    show (startQ q p b).2.out.length ≤ 158
    unfold startQ
    split <;> exact Nat.zero_le _
  | order d =>
    show (orderQ q d).2.out.length ≤ 158
    unfold orderQ
    split
    · exact Nat.zero_le _
    · split <;> exact Nat.zero_le _
  | add o t n k r w =>
    show (addQ q o n k r w t).2.out.length ≤ 158
    unfold addQ
    split
    · exact Nat.zero_le _
    · split
      · exact Nat.zero_le _
      · split <;> exact Nat.zero_le _
  | close o =>
    show (closeQ q o).2.out.length ≤ 158
    unfold closeQ
    split
    · exact Nat.zero_le _
    · split <;> exact Nat.zero_le _
  | plan k =>
    show (planR q k).out.length ≤ 158
    unfold planR
    split
    · exact Nat.zero_le _
    · split
      · exact Nat.zero_le _
      · split
        · exact Nat.zero_le _
        · have h8 := (chosen_of q k).len
          show (_ :: _).length ≤ 158
          rw [List.length_cons, pairs_len, List.length_zip]
          omega
  | run k j =>
    show (runQ q k j).2.out.length ≤ 158
    unfold runQ
    split
    · exact Nat.zero_le _
    · split
      · exact Nat.zero_le _
      · exact Nat.zero_le _
      · show 4 ≤ 158
        decide
  | tick t =>
    show (tickQ q t).2.out.length ≤ 158
    unfold tickQ
    split <;> exact Nat.zero_le _
  | broken k o =>
    show (brokenQ q k o).2.out.length ≤ 158
    unfold brokenQ
    split
    · exact Nat.zero_le _
    · split
      · exact Nat.zero_le _
      · split <;> exact Nat.zero_le _
  | pack o =>
    show (packQ q o).2.out.length ≤ 158
    unfold packQ
    split
    · exact Nat.zero_le _
    · split <;> exact Nat.zero_le _
  | hand o =>
    show (handQ q o).2.out.length ≤ 158
    unfold handQ
    split <;> exact Nat.zero_le _
  | cancel o =>
    show (cancelQ q o).2.out.length ≤ 158
    unfold cancelQ
    split
    · exact Nat.zero_le _
    · split <;> exact Nat.zero_le _
  | bill o =>
    show (billR q o).out.length ≤ 158
    unfold billR
    split <;> exact Nat.zero_le _
  | where_ i =>
    show (whereR q i).out.length ≤ 158
    unfold whereR
    split
    · exact Nat.zero_le _
    · show 1 ≤ 158
      decide
  | label i =>
    show (labelR q i).out.length ≤ 158
    unfold labelR
    split
    · exact Nat.zero_le _
    · rename_i c
      obtain ⟨y, hy⟩ := lt_get (l := q.items) (i := i) (by omega)
      rw [item_get hy]
      have oky := ok.lab y (List.mem_of_getElem? hy)
      obtain ⟨_, g, _⟩ := ok_parts oky
      have := (told_facts oky).1
      show (Kyk1.told _).length ≤ 158
      omega
  | thing i =>
    show (thingR q i).out.length ≤ 158
    unfold thingR
    split
    · exact Nat.zero_le _
    · show 3 ≤ 158
      decide
  | apart l =>
    show (apartR q l).out.length ≤ 158
    unfold apartR
    split
    · exact Nat.zero_le _
    · split
      · exact Nat.zero_le _
      · show 1 ≤ 158
        decide
  | waiting =>
    show (Kyk.waiting q).length ≤ 158
    omega
  | machine k =>
    show (tellMacR q k).out.length ≤ 158
    unfold tellMacR
    split
    · exact Nat.zero_le _
    · split
      · exact Nat.zero_le _
      · split
        · show 5 ≤ 158
          decide
        · exact Nat.zero_le _
  | inside k =>
    show (insideR q k).out.length ≤ 158
    unfold insideR
    split
    · exact Nat.zero_le _
    · rename_i c
      obtain ⟨m, hm⟩ := lt_get (l := q.machines) (i := k) (by omega)
      rw [machine_get hm]
      have := load_len ok (List.mem_of_getElem? hm)
      show m.load.length ≤ 158
      omega
  | state o =>
    show (stateR q o).out.length ≤ 158
    unfold stateR
    split
    · exact Nat.zero_le _
    · show 3 ≤ 158
      decide
  | late =>
    show (lateL q).length ≤ 158
    have := late_len q
    omega
  | next =>
    show (nextR q).out.length ≤ 158
    unfold nextR
    split <;> exact Nat.zero_le _
  | till => exact Nat.zero_le _
  | all =>
    show 3 ≤ 158
    decide
theorem act_len (q : Kyk.Laundry) (c : Kyk.Call) (ok : Ok q) : (toL (act q c).2).length ≤ 159 := by
  rw [toL_len]
  have := out_len q c ok
  omega
end Wash
/-! The laundry as the document's calls have it: places told of the whole. -/
namespace Wash
open Kyk (say)
def vi (q : Kyk.Laundry) (y : Kyk.Item) : Kyk.Item := { y with place := placeOf q y }
def view (q : Kyk.Laundry) : Kyk.Laundry := { q with items := q.items.map (vi q) }
section
variable {q : Kyk.Laundry}
theorem view_get (i : Nat) : (view q).items[i]? = q.items[i]?.map (vi q) := List.getElem?_map
theorem view_len : (view q).items.length = q.items.length := List.length_map ..
theorem item_view {i : Nat} (h : i < q.items.length) : Kyk.item (view q) i = vi q (Kyk.item q i) := by
  obtain ⟨y, hy⟩ := lt_get h
  rw [item_get hy, item_get (q := view q) (by rw [view_get, hy]; rfl)]
theorem item_out {i : Nat} (h : ¬ i < q.items.length) : Kyk.item (view q) i = Kyk.item q i := by
  unfold Kyk.item
  rw [List.getD_eq_getElem?_getD, List.getD_eq_getElem?_getD, List.getElem?_eq_none (by rw [view_len]; omega), List.getElem?_eq_none (by omega)]
theorem item_x (i : Nat) : (Kyk.item (view q) i).x = (Kyk.item q i).x ∧ (Kyk.item (view q) i).w = (Kyk.item q i).w ∧ (Kyk.item (view q) i).order = (Kyk.item q i).order := by
  by_cases h : i < q.items.length
  · rw [item_view h]
    exact ⟨rfl, rfl, rfl⟩
  · rw [item_out h]
    exact ⟨rfl, rfl, rfl⟩
theorem nums_view : Kyk.numbers (view q) = Kyk.numbers q := by
  unfold Kyk.numbers
  rw [view_len]
theorem ofOrder_view (o : Nat) : Kyk.ofOrder (view q) o = Kyk.ofOrder q o := by
  unfold Kyk.ofOrder
  rw [nums_view]
  refine List.filter_congr fun i _ => ?_
  rw [(item_x i).2.2]
theorem bill_view (o : Nat) : Kyk.bill (view q) o = Kyk.bill q o := by
  unfold Kyk.bill
  rw [ofOrder_view]
  rw [show (fun i => (Kyk.item (view q) i).w) = fun i => (Kyk.item q i).w from funext fun i => (item_x i).2.1]
  rfl
theorem sooner_view (i j : Nat) : Kyk.sooner (view q) i j = Kyk.sooner q i j := by
  unfold Kyk.sooner
  rw [(item_x i).2.2, (item_x j).2.2]
  rfl
theorem put_view (i : Nat) : ∀ l : List Nat, Kyk.put (view q) i l = Kyk.put q i l
  | [] => rfl
  | j :: l => by
    show (if Kyk.sooner (view q) i j = true then _ else _ :: Kyk.put (view q) i l) = if Kyk.sooner q i j = true then _ else _ :: Kyk.put q i l
    rw [sooner_view, put_view i l]
theorem placeOf_1 {y : Kyk.Item} (h : (Kyk.order q y.order).state ≤ 1) : placeOf q y = y.place := by
  unfold placeOf
  rw [if_neg (by omega), if_neg (by omega)]
theorem waits_view {i : Nat} (h : i ∈ Kyk.numbers q) : ((Kyk.item (view q) i).place == 0 && (Kyk.order (view q) (Kyk.item (view q) i).order).state == 1) = ((Kyk.item q i).place == 0 && (Kyk.order q (Kyk.item q i).order).state == 1) := by
  rw [(item_x i).2.2, item_view (List.mem_range.mp h)]
  show (placeOf q (Kyk.item q i) == 0 && (Kyk.order q (Kyk.item q i).order).state == 1) = _
  cases c : (Kyk.order q (Kyk.item q i).order).state == 1 with
  | false => rw [Bool.and_false, Bool.and_false]
  | true =>
    rw [placeOf_1 (by rw [beq_iff_eq] at c; omega)]
theorem waiting_view : Kyk.waiting (view q) = Kyk.waiting q := by
  unfold Kyk.waiting
  rw [nums_view, show (fun (l : List Nat) i => Kyk.put (view q) i l) = fun l i => Kyk.put q i l from funext fun l => funext fun i => put_view i l]
  congr 1
  exact List.filter_congr fun i hi => waits_view hi
theorem chosen_view (k : Nat) : Kyk.chosen (view q) k = Kyk.chosen q k := by
  unfold Kyk.chosen
  rw [waiting_view]
  congr 1
  refine List.filter_congr fun i _ => ?_
  rw [(item_x i).2.1]
  rfl
theorem piece_view : Kyk.piece (view q) = Kyk.piece q := funext fun i => by
  unfold Kyk.piece
  rw [(item_x i).1, (item_x i).2.1]
theorem shares_view (k : Nat) : Kyk.shares (view q) k = Kyk.shares q k := by
  unfold Kyk.shares
  rw [chosen_view, piece_view]
  rfl
theorem loadOf_view (k j : Nat) : Kyk.loadOf (view q) k j = Kyk.loadOf q k j := by
  unfold Kyk.loadOf
  rw [shares_view, chosen_view]
theorem canBe_view (x : Kyk1.Thing) (w : Nat) : Kyk.canBe (view q) x w = Kyk.canBe q x w := rfl
/-- places set where the orders are closed -/
theorem view_placed {l : List Nat} {p t : Nat} {ms : List Kyk.Machine} (h : ∀ i ∈ l, ∀ y, q.items[i]? = some y → (Kyk.order q y.order).state = 1) :
    view { q with now := t, items := Kyk.placed q.items l p, machines := ms } = { view q with now := t, items := Kyk.placed (view q).items l p, machines := ms } := by
  have e : (Kyk.placed q.items l p).map (vi q) = Kyk.placed (view q).items l p := List.ext_getElem? fun i => by
    rw [List.getElem?_map, placed_get, placed_get, view_get]
    cases hy : q.items[i]? with
    | none => rfl
    | some y =>
      show some _ = some _
      congr 1
      cases c : l.contains i with
      | false => rfl
      | true =>
        have s := h i (List.contains_iff_mem.mp c) y hy
        show vi q (setP p y) = setP p (vi q y)
        unfold vi
        rw [placeOf_1 (y := setP p y) (by show (Kyk.order q y.order).state ≤ 1; omega)]
        rfl
  show ({ q with now := t, items := (Kyk.placed q.items l p).map (vi q), machines := ms } : Kyk.Laundry) = _
  rw [e]
  rfl
/-- an order's state set -/
theorem order_set {o s : Nat} {y : Kyk.Order} (hy : q.orders[o]? = some y) (j : Nat) : Kyk.order (Kyk.setOrder q o s) j = if j = o then { y with state := s } else Kyk.order q j := by
  rw [setOrder_eq hy]
  unfold Kyk.order
  show (q.orders.set o _).getD j _ = _
  rw [List.getD_eq_getElem?_getD, List.getD_eq_getElem?_getD]
  by_cases e : j = o
  · subst e
    rw [if_pos rfl, List.getElem?_set_self (List.getElem?_eq_some_iff.mp hy).1]
    rfl
  · rw [if_neg e, List.getElem?_set_ne (Ne.symm e)]
theorem in_order {o i : Nat} {z : Kyk.Item} (hz : q.items[i]? = some z) : (Kyk.ofOrder q o).contains i = (z.order == o) := by
  rw [Bool.eq_iff_iff, List.contains_iff_mem, beq_iff_eq]
  unfold Kyk.ofOrder
  rw [List.mem_filter, item_get hz, beq_iff_eq]
  exact ⟨fun h => h.2, fun h => ⟨List.mem_range.mpr (List.getElem?_eq_some_iff.mp hz).1, h⟩⟩
/-- .. and the places of its things told so -/
theorem view_state {o s p : Nat} {y : Kyk.Order} {tl : Nat} (hy : q.orders[o]? = some y) (hp : ∀ z, placeOf (Kyk.setOrder q o s) z = if z.order = o then p else placeOf q z) :
    view { Kyk.setOrder q o s with till := tl } = { Kyk.setOrder (view q) o s with till := tl, items := Kyk.placed (view q).items (Kyk.ofOrder (view q) o) p } := by
  have e : q.items.map (vi (Kyk.setOrder q o s)) = Kyk.placed (view q).items (Kyk.ofOrder (view q) o) p := List.ext_getElem? fun i => by
    rw [List.getElem?_map, placed_get, view_get, ofOrder_view]
    cases hz : q.items[i]? with
    | none => rfl
    | some z =>
      show some _ = some _
      congr 1
      rw [in_order hz]
      show ({ z with place := placeOf (Kyk.setOrder q o s) z } : Kyk.Item) = _
      rw [hp z]
      by_cases c : z.order = o
      · dsimp only
        rw [if_pos c, if_pos (beq_iff_eq.mpr c)]
        rfl
      · dsimp only
        rw [if_neg c, if_neg (by rw [beq_iff_eq]; exact c)]
        rfl
  show ({ Kyk.setOrder q o s with till := tl, items := q.items.map (vi { Kyk.setOrder q o s with till := tl }) } : Kyk.Laundry) = _
  have e2 : vi { Kyk.setOrder q o s with till := tl } = vi (Kyk.setOrder q o s) := rfl
  rw [e2, e]
  rfl
theorem place_set {o s : Nat} {y : Kyk.Order} (hy : q.orders[o]? = some y) (z : Kyk.Item) : placeOf (Kyk.setOrder q o s) z = if z.order = o then (if s = 2 then 3 else if s = 3 ∨ s = 4 then 4 else z.place) else placeOf q z := by
  unfold placeOf
  rw [order_set hy]
  by_cases c : z.order = o
  · rw [if_pos c, if_pos c]
  · rw [if_neg c, if_neg c]
theorem stRef_spec {o : Nat} {sts : List Nat} {α : Type} {r : α} {f : Int → α} : (if stRef q o sts < 0 then f (stRef q o sts) else r) = if Kyk.there (view q) o = false then f (-2) else if sts.contains (Kyk.order (view q) o).state = false then f (-16) else r := by
  unfold stRef Kyk.there
  show _ = if decide (o < q.orders.length) = false then f (-2) else if sts.contains (Kyk.order q o).state = false then f (-16) else r
  by_cases c : q.orders.length ≤ o
  · rw [if_pos c, if_pos (by decide), if_pos (by rw [decide_eq_false_iff_not]; omega)]
  · rw [if_neg c, if_neg (c := decide (o < q.orders.length) = false) (by rw [decide_eq_false_iff_not]; omega)]
    cases c2 : sts.contains (Kyk.order q o).state with
    | true => rfl
    | false => rfl
end
end Wash
/-! Each call as the document has it. -/
namespace Wash
open Kyk (say)
/-! two that may not go together -/
theorem findA_map (g : Nat → Nat → Bool) (h : Nat → Nat) : ∀ L : List Nat, findA g (L.map h) = (findA (fun a b => g (h a) (h b)) L).map fun x => (h x.1, h x.2)
  | [] => rfl
  | a :: r => by
    have ih := findA_map g h r
    have e : ((a :: r).map h).filter (g (h a)) = ((a :: r).filter fun b => g (h a) (h b)).map h := by
      rw [List.filter_map]
      rfl
    show (match ((a :: r).map h).filter (g (h a)) with
      | [] => findA g (r.map h)
      | j :: _ => some (h a, j)) = Option.map _ (match (a :: r).filter (fun b => g (h a) (h b)) with
      | [] => findA (fun a b => g (h a) (h b)) r
      | j :: _ => some (a, j))
    rw [e]
    cases (a :: r).filter fun b => g (h a) (h b) with
    | nil => exact ih
    | cons j t => rfl
theorem flat_congr {α β : Type} {f g : α → List β} : ∀ {l : List α}, (∀ x ∈ l, f x = g x) → l.flatMap f = l.flatMap g
  | [], _ => rfl
  | a :: l, h => by
    rw [List.flatMap_cons, List.flatMap_cons, h a List.mem_cons_self, flat_congr fun x hx => h x (List.mem_cons_of_mem _ hx)]
theorem find_pairs (P : Nat × Nat → Bool) : ∀ L : List Nat, L.Pairwise (· < ·) → (L.flatMap fun i => (L.filter fun j => decide (i ≤ j)).map fun j => (i, j)).find? P = findA (fun i j => P (i, j)) L
  | [], _ => rfl
  | a :: r, h => by
    obtain ⟨h1, h2⟩ := List.pairwise_cons.mp h
    have ih := find_pairs P r h2
    have e1 : (a :: r).filter (fun j => decide (a ≤ j)) = a :: r := List.filter_eq_self.mpr fun j hj => by
      rcases List.mem_cons.mp hj with rfl | hj
      · exact decide_eq_true (Nat.le_refl _)
      · exact decide_eq_true (Nat.le_of_lt (h1 j hj))
    have e2 : (r.flatMap fun i => ((a :: r).filter fun j => decide (i ≤ j)).map fun j => (i, j)) = r.flatMap fun i => (r.filter fun j => decide (i ≤ j)).map fun j => (i, j) := by
      refine flat_congr fun i hi => ?_
      rw [List.filter_cons, if_neg (by rw [decide_eq_true_eq]; have := h1 i hi; omega)]
    rw [List.flatMap_cons, e1, e2, List.find?_append, ih, List.find?_map, find_head]
    show Option.or (Option.map _ ((a :: r).filter fun j => P (a, j)).head?) _ = (match (a :: r).filter (fun j => P (a, j)) with
      | [] => findA (fun i j => P (i, j)) r
      | j :: _ => some (a, j))
    cases (a :: r).filter fun j => P (a, j) with
    | nil => rfl
    | cons j t => rfl
theorem findA_congr {g g' : Nat → Nat → Bool} : ∀ {L : List Nat}, (∀ a ∈ L, ∀ b ∈ L, g a b = g' a b) → findA g L = findA g' L
  | [], _ => rfl
  | a :: r, h => by
    have e : (a :: r).filter (g a) = (a :: r).filter (g' a) := List.filter_congr fun b hb => h a List.mem_cons_self b hb
    have ih := findA_congr (L := r) fun a ha b hb => h a (List.mem_cons_of_mem _ ha) b (List.mem_cons_of_mem _ hb)
    show (match (a :: r).filter (g a) with
      | [] => findA g r
      | j :: _ => some (a, j)) = (match (a :: r).filter (g' a) with
      | [] => findA g' r
      | j :: _ => some (a, j))
    rw [e, ih]
theorem apart_find (q : Kyk.Laundry) (l : List Nat) : findA (apB q) l = (Kyk1.apart (l.map fun i => (Kyk.item q i).x)).map fun x => (l.getD x.1 0, l.getD x.2 0) := by
  have el : l = (List.range l.length).map fun i => l.getD i 0 := List.ext_getElem? fun i => by
    rw [List.getElem?_map]
    by_cases h : i < l.length
    · rw [List.getElem?_range h, List.getElem?_eq_getElem h]
      show _ = some (l.getD i 0)
      rw [List.getD_eq_getElem?_getD, List.getElem?_eq_getElem h]
      rfl
    · rw [List.getElem?_eq_none (by omega), List.getElem?_eq_none (by rw [List.length_range]; omega)]
      rfl
  have e1 : findA (apB q) l = (findA (fun a b => apB q (l.getD a 0) (l.getD b 0)) (List.range l.length)).map fun x => (l.getD x.1 0, l.getD x.2 0) := by
    conv => lhs; rw [el]
    exact findA_map (apB q) (fun i => l.getD i 0) _
  rw [e1]
  congr 1
  unfold Kyk1.apart
  rw [List.length_map, find_pairs _ _ List.pairwise_lt_range]
  refine findA_congr fun a ha b hb => ?_
  have ha := List.mem_range.mp ha
  have hb := List.mem_range.mp hb
  show apB q (l.getD a 0) (l.getD b 0) = _
  rw [List.getElem?_map, List.getElem?_map, List.getElem?_eq_getElem ha, List.getElem?_eq_getElem hb, List.getD_eq_getElem?_getD, List.getD_eq_getElem?_getD, List.getElem?_eq_getElem ha, List.getElem?_eq_getElem hb]
  rfl
theorem bad_iff (q : Kyk.Laundry) (l : List Nat) : badB q l = true ↔ (l.isEmpty = true ∨ 20 < l.length ∨ l.any (fun i => decide (q.items.length ≤ i)) = true) := by
  unfold badB
  rw [Bool.or_eq_true, Bool.not_eq_true', Bool.and_eq_false_iff, decide_eq_false_iff_not, decide_eq_false_iff_not, decide_eq_true_eq, List.any_eq_true]
  constructor
  · rintro ((h | h) | h)
    · exact .inl (by cases l with
        | nil => rfl
        | cons a r => simp at h)
    · exact .inr (.inl (by omega))
    · cases l with
      | nil => exact .inl rfl
      | cons a r =>
        refine .inr (.inr ?_)
        rcases foldl_max_in (a :: r) 0 with e | e
        · have hz : maxN (a :: r) = 0 := e
          exact ⟨a, List.mem_cons_self, decide_eq_true (by omega)⟩
        · exact ⟨_, e, decide_eq_true h⟩
  · rintro (h | h | ⟨i, hi, h⟩)
    · cases l with
      | nil => exact .inl (.inl (by simp))
      | cons a r => cases h
    · exact .inl (.inr (by omega))
    · have := max_le.mp (Nat.le_refl (maxN l)) i hi
      have := of_decide_eq_true h
      exact .inr (by omega)
section
variable {q : Kyk.Laundry}
theorem st_cases (o : Nat) (sts : List Nat) : (Kyk.there (view q) o = false ∧ stRef q o sts = -2) ∨ (Kyk.there (view q) o = true ∧ sts.contains (Kyk.order (view q) o).state = false ∧ stRef q o sts = -16) ∨ (Kyk.there (view q) o = true ∧ stRef q o sts = 0 ∧ ∃ y, q.orders[o]? = some y ∧ Kyk.order (view q) o = y ∧ sts.contains y.state = true) := by
  unfold stRef Kyk.there
  by_cases c : q.orders.length ≤ o
  · exact .inl ⟨decide_eq_false (by show ¬ o < q.orders.length; omega), if_pos c⟩
  · have c' : decide (o < (view q).orders.length) = true := decide_eq_true (by show o < q.orders.length; omega)
    obtain ⟨y, hy⟩ := lt_get (l := q.orders) (i := o) (by omega)
    rw [if_neg c]
    have ho : Kyk.order q o = y := order_get hy
    have ho' : Kyk.order (view q) o = y := ho
    rw [ho, ho']
    cases c2 : sts.contains y.state with
    | false => exact .inr (.inl ⟨c', rfl, by decide⟩)
    | true => exact .inr (.inr ⟨c', by decide, y, hy, rfl, c2⟩)
theorem one_c {a s : Nat} : ([a] : List Nat).contains s = (s == a) := by
  rw [List.contains_cons]
  simp
theorem any_view {o p : Nat} {y : Kyk.Order} (hy : q.orders[o]? = some y) (hs : y.state ≤ 1) : (Kyk.ofOrder (view q) o).any (fun i => (Kyk.item (view q) i).place != p) = (Kyk.ofOrder q o).any fun i => (Kyk.item q i).place != p := by
  rw [ofOrder_view]
  have : ∀ i ∈ Kyk.ofOrder q o, ((Kyk.item (view q) i).place != p) = ((Kyk.item q i).place != p) := fun i hi => by
    obtain ⟨h1, h2⟩ := List.mem_filter.mp hi
    rw [item_view (List.mem_range.mp h1)]
    show (placeOf q _ != p) = _
    rw [placeOf_1 (by rw [beq_iff_eq.mp h2, order_get hy]; exact hs)]
  rw [Bool.eq_iff_iff, List.any_eq_true, List.any_eq_true]
  exact ⟨fun ⟨i, hi, h⟩ => ⟨i, hi, by rw [← this i hi]; exact h⟩, fun ⟨i, hi, h⟩ => ⟨i, hi, by rw [this i hi]; exact h⟩⟩
def acted (q : Kyk.Laundry) (c : Kyk.Call) : Prop := Kyk.acts (some (view q)) c = some (some (view (act q c).1), (act q c).2)
theorem a_start (p : Nat) (b : List Nat) : acted q (.start p b) := by
  show some (if Kyk.okStart p b = false then (some (view q), say (-22)) else (some _, say 0)) = some (some (view (startQ q p b).1), (startQ q p b).2)
  unfold startQ
  split
  · rfl
  · rfl
theorem map_vi {q' : Kyk.Laundry} (h : ∀ y ∈ q.items, placeOf q' y = placeOf q y) : q.items.map (vi q') = q.items.map (vi q) := List.map_congr_left fun y hy => by
  unfold vi
  rw [h y hy]
theorem a_order (ok : Ok q) (d : Nat) : acted q (.order d) := by
  show some (if d < q.now ∨ 1000000 < d then (some (view q), say (-22)) else if q.orders.length = 60 then (some (view q), say (-28)) else (some { view q with orders := q.orders ++ [⟨d, 0⟩] }, say (q.orders.length : Nat))) = some (some (view (orderQ q d).1), (orderQ q d).2)
  unfold orderQ
  split
  · rfl
  · split
    · rfl
    · congr 3
      show _ = ({ q with orders := q.orders ++ [⟨d, 0⟩], items := q.items.map (vi { q with orders := q.orders ++ [⟨d, 0⟩] }) } : Kyk.Laundry)
      rw [map_vi fun y hy => by
        unfold placeOf
        rw [order_app (ok.ord y hy)]]
      rfl
theorem a_close (ok : Ok q) (o : Nat) : acted q (.close o) := by
  show some (if Kyk.there (view q) o = false then (some (view q), say (-2)) else if (Kyk.order (view q) o).state ≠ 0 then (some (view q), say (-16)) else if (Kyk.ofOrder (view q) o).isEmpty then (some (view q), say (-6)) else (some (Kyk.setOrder (view q) o 1), say 0)) = some (some (view (closeQ q o).1), (closeQ q o).2)
  unfold closeQ
  rcases st_cases (q := q) o [0] with ⟨h1, h2⟩ | ⟨h1, h3, h2⟩ | ⟨h1, h2, y, hy, ho, hs⟩
  · rw [if_pos h1, h2]
    rfl
  · rw [one_c, beq_eq_false_iff_ne] at h3
    rw [if_neg (by rw [h1]; decide), if_pos h3, h2]
    rfl
  · rw [one_c, beq_iff_eq] at hs
    rw [if_neg (by rw [h1]; decide), ho, if_neg (by rw [hs]; decide), h2, if_neg (c := (0 : Int) < 0) (by decide), ofOrder_view]
    split
    · rfl
    · congr 3
      show _ = ({ Kyk.setOrder q o 1 with items := q.items.map (vi (Kyk.setOrder q o 1)) } : Kyk.Laundry)
      rw [map_vi fun z _ => by
        rw [place_set hy]
        split
        · rename_i e
          rw [placeOf_1 (by rw [e, order_get hy]; omega), if_neg (by decide), if_neg (by decide)]
        · rfl]
      rfl
theorem a_pack (ok : Ok q) (o : Nat) : acted q (.pack o) := by
  show some (if Kyk.there (view q) o = false then (some (view q), say (-2)) else if (Kyk.order (view q) o).state ≠ 1 then (some (view q), say (-16)) else if (Kyk.ofOrder (view q) o).any (fun i => (Kyk.item (view q) i).place != 2) then (some (view q), say (-61)) else (some { Kyk.setOrder (view q) o 2 with items := Kyk.placed (view q).items (Kyk.ofOrder (view q) o) 3 }, say ((Kyk.ofOrder (view q) o).length : Nat))) = some (some (view (packQ q o).1), (packQ q o).2)
  unfold packQ
  rcases st_cases (q := q) o [1] with ⟨h1, h2⟩ | ⟨h1, h3, h2⟩ | ⟨h1, h2, y, hy, ho, hs⟩
  · rw [if_pos h1, h2]
    rfl
  · rw [one_c, beq_eq_false_iff_ne] at h3
    rw [if_neg (by rw [h1]; decide), if_pos h3, h2]
    rfl
  · rw [one_c, beq_iff_eq] at hs
    rw [if_neg (by rw [h1]; decide), ho, if_neg (by rw [hs]; decide), h2, if_neg (c := (0 : Int) < 0) (by decide), any_view hy (by omega)]
    split
    · rfl
    · have := view_state (q := q) (o := o) (s := 2) (p := 3) (tl := q.till) hy fun z => by
        rw [place_set hy, if_pos rfl]
      show some (some _, say ((Kyk.ofOrder (view q) o).length : Nat)) = some (some (view (Kyk.setOrder q o 2)), _)
      have e2 : view (Kyk.setOrder q o 2) = view { Kyk.setOrder q o 2 with till := q.till } := rfl
      rw [e2, this]
      rw [show (Kyk.ofOrder (view q) o).length = (Kyk.ofOrder q o).length by rw [ofOrder_view]]
      rfl
theorem a_cancel (ok : Ok q) (o : Nat) : acted q (.cancel o) := by
  show some (if Kyk.there (view q) o = false then (some (view q), say (-2)) else if 1 < (Kyk.order (view q) o).state then (some (view q), say (-16)) else if (Kyk.ofOrder (view q) o).any (fun i => (Kyk.item (view q) i).place != 0) then (some (view q), say (-17)) else (some { Kyk.setOrder (view q) o 4 with items := Kyk.placed (view q).items (Kyk.ofOrder (view q) o) 4 }, say ((Kyk.ofOrder (view q) o).length : Nat))) = some (some (view (cancelQ q o).1), (cancelQ q o).2)
  unfold cancelQ
  have two : ∀ s : Nat, ([0, 1] : List Nat).contains s = decide (s ≤ 1) := fun s => by
    rw [Bool.eq_iff_iff, List.contains_iff_mem, decide_eq_true_eq]
    simp
    omega
  rcases st_cases (q := q) o [0, 1] with ⟨h1, h2⟩ | ⟨h1, h3, h2⟩ | ⟨h1, h2, y, hy, ho, hs⟩
  · rw [if_pos h1, h2]
    rfl
  · rw [two, decide_eq_false_iff_not] at h3
    rw [if_neg (by rw [h1]; decide), if_pos (by omega), h2]
    rfl
  · rw [two, decide_eq_true_eq] at hs
    rw [if_neg (by rw [h1]; decide), ho, if_neg (by omega), h2, if_neg (c := (0 : Int) < 0) (by decide), any_view hy hs]
    split
    · rfl
    · have := view_state (q := q) (o := o) (s := 4) (p := 4) (tl := q.till) hy fun z => place_set hy z
      show some (some _, say ((Kyk.ofOrder (view q) o).length : Nat)) = some (some (view (Kyk.setOrder q o 4)), _)
      have e2 : view (Kyk.setOrder q o 4) = view { Kyk.setOrder q o 4 with till := q.till } := rfl
      rw [e2, this]
      rw [show (Kyk.ofOrder (view q) o).length = (Kyk.ofOrder q o).length by rw [ofOrder_view]]
      rfl
theorem a_hand (ok : Ok q) (o : Nat) : acted q (.hand o) := by
  show some (if Kyk.there (view q) o = false then (some (view q), say (-2)) else if (Kyk.order (view q) o).state ≠ 2 then (some (view q), say (-16)) else (some { Kyk.setOrder (view q) o 3 with items := Kyk.placed (view q).items (Kyk.ofOrder (view q) o) 4, till := (view q).till + Kyk.bill (view q) o }, say (Kyk.bill (view q) o : Nat))) = some (some (view (handQ q o).1), (handQ q o).2)
  unfold handQ
  rcases st_cases (q := q) o [2] with ⟨h1, h2⟩ | ⟨h1, h3, h2⟩ | ⟨h1, h2, y, hy, ho, hs⟩
  · rw [if_pos h1, h2]
    rfl
  · rw [one_c, beq_eq_false_iff_ne] at h3
    rw [if_neg (by rw [h1]; decide), if_pos h3, h2]
    rfl
  · rw [one_c, beq_iff_eq] at hs
    rw [if_neg (by rw [h1]; decide), ho, if_neg (by rw [hs]; decide), h2, if_neg (c := (0 : Int) < 0) (by decide), bill_view]
    have := view_state (q := q) (o := o) (s := 3) (p := 4) (tl := q.till + Kyk.bill q o) hy fun z => place_set hy z
    show _ = some (some (view { Kyk.setOrder q o 3 with till := q.till + Kyk.bill q o }), _)
    rw [this]
    rfl
end
end Wash
namespace Wash
open Kyk (say)
section
variable {q : Kyk.Laundry}
theorem rng_iff {x : Kyk1.Label} (okx : Kyk1.okLabel x = true) {n k r w : Nat} : inRangeB n k r w = false ↔ (Kyk1.okThing ⟨x, n, k, r == 1⟩ = false ∨ 1 < r ∨ w < 1 ∨ 20000 < w) := by
  have e : Kyk1.okThing ⟨x, n, k, r == 1⟩ = ((n == 0 || Kyk1.heats.contains n) && decide (k ≤ 9)) := by
    unfold Kyk1.okThing
    rw [show (Kyk1.Thing.mk x n k (r == 1)).label = x from rfl, okx, Bool.true_and]
  have hb : heatsB (n : Int) = (n == 0 || Kyk1.heats.contains n) := by
    rw [Bool.eq_iff_iff, heatsB_iff, Bool.or_eq_true, beq_iff_eq, List.contains_iff_mem]
    unfold Kyk1.heats
    simp only [List.mem_cons, List.not_mem_nil, or_false]
    omega
  unfold inRangeB
  rw [e, hb]
  cases (n == 0 || Kyk1.heats.contains n) with
  | false => simp
  | true =>
    simp only [Bool.true_and, Bool.and_eq_false_iff, Bool.not_eq_false', decide_eq_true_eq, decide_eq_false_iff_not]
    omega
theorem a_add (ok : Ok q) (o : Nat) (t : List Nat) (n k r w : Nat) : acted q (.add o t n k r w) := by
  show some (if Kyk.there (view q) o = false then (some (view q), say (-2)) else if (Kyk.order (view q) o).state ≠ 0 then (some (view q), say (-16)) else match Kyk1.read t with
    | none => (some (view q), say (-71))
    | some x => Kyk.added (view q) o n k r w x) = some (some (view (addQ q o n k r w t).1), (addQ q o n k r w t).2)
  unfold addQ
  rcases st_cases (q := q) o [0] with ⟨h1, h2⟩ | ⟨h1, h3, h2⟩ | ⟨h1, h2, y, hy, ho, hs⟩
  · rw [if_pos h1, h2]
    rfl
  · rw [one_c, beq_eq_false_iff_ne] at h3
    rw [if_neg (by rw [h1]; decide), if_pos h3, h2]
    rfl
  · rw [one_c, beq_iff_eq] at hs
    rw [if_neg (by rw [h1]; decide), ho, if_neg (by rw [hs]; decide), h2, if_neg (c := (0 : Int) < 0) (by decide)]
    cases hx : Kyk1.read t with
    | none => rfl
    | some x =>
      have okx := (told_read hx).1
      dsimp only
      unfold Kyk.added thgRef
      dsimp only
      by_cases c1 : inRangeB n k r w = false
      · rw [if_pos ((rng_iff okx).mp c1), if_pos c1]
        rfl
      · rw [if_neg (fun z => c1 ((rng_iff okx).mpr z)), if_neg c1, canBe_view]
        by_cases c2 : Kyk.canBe q ⟨x, n, k, r == 1⟩ w = false
        · rw [if_pos c2, if_pos c2]
          rfl
        · rw [if_neg c2, if_neg c2, view_len]
          by_cases c3 : q.items.length = 150
          · rw [if_pos (show q.items.length = Kyk.mostItems from c3), if_pos c3]
            rfl
          · rw [if_neg (show ¬ q.items.length = Kyk.mostItems from c3), if_neg c3, if_neg (c := (0 : Int) < 0) (by decide)]
            congr 3
            show _ = ({ q with items := (q.items ++ [(⟨⟨x, n, k, r == 1⟩, w, o, 0⟩ : Kyk.Item)]).map (vi q) } : Kyk.Laundry)
            rw [List.map_append]
            have e : vi q ⟨⟨x, n, k, r == 1⟩, w, o, 0⟩ = ⟨⟨x, n, k, r == 1⟩, w, o, 0⟩ := by
              unfold vi
              rw [placeOf_1 (by show (Kyk.order q o).state ≤ 1; rw [order_get hy]; omega)]
            show _ = ({ q with items := q.items.map (vi q) ++ [vi q ⟨⟨x, n, k, r == 1⟩, w, o, 0⟩] } : Kyk.Laundry)
            rw [e]
            rfl
theorem a_plan (k : Nat) : acted q (.plan k) := by
  show some (some (view q), if q.machines.length ≤ k then say (-2) else if (Kyk.chosen (view q) k).isEmpty then say (-6) else match Kyk.shares (view q) k with
    | none => say (-6)
    | some x => ⟨(x.1 : Nat), (Kyk.chosen (view q) k).length :: ((Kyk.chosen (view q) k).zip x.2).flatMap fun y => [y.1, y.2]⟩) = some (some (view q), planR q k)
  rw [chosen_view, shares_view]
  rfl
theorem load_st (ok : Ok q) {m : Kyk.Machine} (hm : m ∈ q.machines) {i : Nat} (hi : i ∈ m.load) : ∀ y, q.items[i]? = some y → (Kyk.order q y.order).state = 1 := fun y hy => by
  obtain ⟨z, h1, _, h2⟩ := ok.lod m hm i hi
  rw [h1] at hy
  cases hy
  exact h2
theorem a_tick (ok : Ok q) (t : Nat) : acted q (.tick t) := by
  show some (if t < q.now ∨ 1000000 < t then (some (view q), say (-22)) else (some (Kyk.till (view q) t), say ((overL t q.machines).length : Nat))) = some (some (view (tickQ q t).1), (tickQ q t).2)
  unfold tickQ
  split
  · rfl
  · congr 3
    have := view_placed (q := q) (l := overL t q.machines) (p := 2) (t := t) (ms := q.machines.map (overM t)) fun i hi y hy => by
      obtain ⟨m, hm, hi⟩ := List.mem_flatMap.mp hi
      exact load_st ok (List.mem_filter.mp hm).1 hi y hy
    exact this.symm
theorem a_broken (ok : Ok q) (k o : Nat) : acted q (.broken k o) := by
  show some (if q.machines.length ≤ k then (some (view q), say (-2)) else if 1 < o then (some (view q), say (-22)) else if (Kyk.machine q k).broken == (o == 1) then (some (view q), say (-17)) else
    (some { view q with items := Kyk.placed (view q).items (Kyk.machine q k).load 0, machines := q.machines.set k { Kyk.emptied (Kyk.machine q k) with broken := o == 1 } }, say ((Kyk.machine q k).load.length : Nat))) = some (some (view (brokenQ q k o).1), (brokenQ q k o).2)
  unfold brokenQ
  split
  · rfl
  · rename_i c
    split
    · rfl
    · split
      · rfl
      · obtain ⟨m, hm⟩ := lt_get (l := q.machines) (i := k) (by omega)
        rw [machine_get hm]
        congr 3
        have := view_placed (q := q) (l := m.load) (p := 0) (t := q.now) (ms := q.machines.set k { Kyk.emptied m with broken := o == 1 }) fun i hi y hy => load_st ok (List.mem_of_getElem? hm) hi y hy
        exact this.symm
theorem a_run (ok : Ok q) (k j : Nat) : acted q (.run k j) := by
  show some (if q.machines.length ≤ k then (some (view q), say (-2)) else if (Kyk.machine q k).broken then (some (view q), say (-4)) else if Kyk.runs (Kyk.machine q k) then (some (view q), say (-16)) else if (Kyk.chosen (view q) k).isEmpty then (some (view q), say (-6)) else
      match Kyk.loadOf (view q) k j, Kyk1.program ((Kyk.loadOf (view q) k j).map fun i => (Kyk.item (view q) i).x) with
      | [], _ => (some (view q), say (-22))
      | _, none => (some (view q), say (-22))
      | i :: l, some p => (some { view q with items := Kyk.placed (view q).items (i :: l) 1, machines := q.machines.set k ⟨(Kyk.machine q k).bears, false, i :: l, q.now + Kyk.minutes p, p⟩ }, ⟨(Kyk.minutes p : Nat), Kyk1.programNumbers p⟩)) = some (some (view (runQ q k j).1), (runQ q k j).2)
  rw [chosen_view, loadOf_view, show (fun i => (Kyk.item (view q) i).x) = fun i => (Kyk.item q i).x from funext fun i => (item_x i).1]
  unfold runQ
  by_cases c : refusalR q k < 0
  · rw [if_pos c]
    unfold refusalR at c ⊢
    by_cases c1 : q.machines.length ≤ k
    · rw [if_pos c1, if_pos c1]
    · rw [if_neg c1] at c
      rw [if_neg c1, if_neg c1]
      cases c2 : (Kyk.machine q k).broken with
      | true => rfl
      | false =>
        rw [c2, if_neg Bool.false_ne_true] at c
        rw [if_neg Bool.false_ne_true, if_neg Bool.false_ne_true]
        cases c3 : Kyk.runs (Kyk.machine q k) with
        | true => rfl
        | false =>
          rw [c3, if_neg Bool.false_ne_true] at c
          rw [if_neg Bool.false_ne_true, if_neg Bool.false_ne_true]
          cases c4 : (Kyk.chosen q k).isEmpty with
          | true => rfl
          | false =>
            rw [c4, if_neg Bool.false_ne_true] at c
            exact absurd c (by decide)
  · obtain ⟨c1, c2, c3, c4⟩ := refusal_ok c
    rw [if_neg c, if_neg c1, c2, if_neg Bool.false_ne_true, c3, if_neg Bool.false_ne_true, c4, if_neg Bool.false_ne_true]
    obtain ⟨m, hm⟩ := lt_get (l := q.machines) (i := k) (by omega)
    have em := machine_get hm
    rw [em] at c2 ⊢
    cases hL : Kyk.loadOf q k j with
    | nil => rfl
    | cons i l =>
      cases hP : Kyk1.program ((i :: l).map fun i => (Kyk.item q i).x) with
      | none => rfl
      | some p =>
        dsimp only
        congr 3
        have := view_placed (q := q) (l := i :: l) (p := 1) (t := q.now) (ms := q.machines.set k { m with load := i :: l, p := p, until_ := q.now + minutesP p }) fun z hz y hy => by
          rw [← hL] at hz
          have h1 := (chosen_of q k).mem z (loadOf_mem hz)
          obtain ⟨y', g1, _, g2⟩ := wait_facts h1.2.2 h1.1
          rw [g1] at hy
          cases hy
          exact g2
        have e2 : ({ m with load := i :: l, p := p, until_ := q.now + minutesP p } : Kyk.Machine) = ⟨m.bears, false, i :: l, q.now + Kyk.minutes p, p⟩ := by
          rw [← c2]
          rfl
        unfold fillQ
        rw [e2] at this ⊢
        exact this.symm
theorem a_bill (o : Nat) : acted q (.bill o) := by
  show some (some (view q), if decide (o < q.orders.length) = false then say (-2) else say (Kyk.bill (view q) o : Nat)) = some (some (view q), billR q o)
  unfold billR
  rw [bill_view]
  by_cases c : q.orders.length ≤ o
  · rw [if_pos c, if_pos (by rw [decide_eq_false_iff_not]; omega)]
  · rw [if_neg c, if_neg (by rw [decide_eq_false_iff_not]; omega)]
theorem a_where (i : Nat) : acted q (.where_ i) := by
  show some (some (view q), if (view q).items.length ≤ i then say (-2) else ⟨((Kyk.item (view q) i).place : Nat), [(Kyk.item (view q) i).order]⟩) = some (some (view q), whereR q i)
  unfold whereR
  rw [view_len]
  split
  · rfl
  · rw [item_view (by omega)]
    rfl
theorem a_label (i : Nat) : acted q (.label i) := by
  show some (some (view q), if (view q).items.length ≤ i then say (-2) else ⟨((Kyk1.told (Kyk.item (view q) i).x.label).length : Nat), Kyk1.told (Kyk.item (view q) i).x.label⟩) = some (some (view q), labelR q i)
  unfold labelR
  rw [view_len, (item_x i).1]
theorem a_thing (i : Nat) : acted q (.thing i) := by
  show some (some (view q), if (view q).items.length ≤ i then say (-2) else ⟨((Kyk.item (view q) i).w : Nat), [(Kyk.item (view q) i).x.need, (Kyk.item (view q) i).x.colour, if (Kyk.item (view q) i).x.runs then 1 else 0]⟩) = some (some (view q), thingR q i)
  unfold thingR
  rw [view_len, (item_x i).1, (item_x i).2.1]
  rfl
theorem a_apart (l : List Nat) : acted q (.apart l) := by
  show some (some (view q), match Kyk.someThings (view q) l with
    | none => say (-22)
    | some m => match Kyk1.apart m with
      | none => say (-33)
      | some x => ⟨(l.getD x.1 0 : Nat), [l.getD x.2 0]⟩) = some (some (view q), apartR q l)
  unfold Kyk.someThings apartR
  rw [view_len, show (fun i => (Kyk.item (view q) i).x) = fun i => (Kyk.item q i).x from funext fun i => (item_x i).1]
  by_cases c : badB q l = true
  · rw [if_pos c, if_pos ((bad_iff q l).mp c)]
  · rw [if_neg c, if_neg fun z => c ((bad_iff q l).mpr z), apart_find]
    dsimp only
    cases Kyk1.apart (l.map fun i => (Kyk.item q i).x) with
    | none => rfl
    | some x => rfl
theorem a_state (o : Nat) : acted q (.state o) := by
  show some (some (view q), if decide (o < q.orders.length) = false then say (-2) else ⟨((Kyk.order q o).state : Nat), [(Kyk.order q o).due, (Kyk.ofOrder (view q) o).length, ((Kyk.ofOrder (view q) o).filter fun i => (Kyk.item (view q) i).place == 2).length]⟩) = some (some (view q), stateR q o)
  unfold stateR
  rw [ofOrder_view]
  have e : (Kyk.ofOrder q o).filter (fun i => (Kyk.item (view q) i).place == 2) = (Kyk.ofOrder q o).filter fun i => placeOf q (Kyk.item q i) == 2 := List.filter_congr fun i hi => by
    rw [item_view (List.mem_range.mp (List.mem_filter.mp hi).1)]
    rfl
  rw [e]
  by_cases c : q.orders.length ≤ o
  · rw [if_pos c, if_pos (by rw [decide_eq_false_iff_not]; omega)]
  · rw [if_neg c, if_neg (by rw [decide_eq_false_iff_not]; omega)]
theorem a_late (st : ∀ y ∈ q.orders, y.state ≤ 4) : acted q .late := by
  have e : ((List.range q.orders.length).filter fun o => decide ((Kyk.order q o).state ≤ 2) && decide ((Kyk.order q o).due < q.now)) = lateL q := List.filter_congr fun o ho => by
    obtain ⟨y, hy⟩ := lt_get (List.mem_range.mp ho)
    have := st y (List.mem_of_getElem? hy)
    rw [order_get hy]
    unfold lateB
    congr 1
    rw [Bool.eq_iff_iff, decide_eq_true_eq, Bool.not_eq_true', Bool.or_eq_false_iff, beq_eq_false_iff_ne, beq_eq_false_iff_ne]
    omega
  show some (some (view q), (⟨((((List.range q.orders.length).filter fun o => decide ((Kyk.order q o).state ≤ 2) && decide ((Kyk.order q o).due < q.now))).length : Nat), (List.range q.orders.length).filter fun o => decide ((Kyk.order q o).state ≤ 2) && decide ((Kyk.order q o).due < q.now)⟩ : Kyk.Ans)) = some (some (view q), lateR q)
  rw [e]
  rfl
theorem a_waiting : acted q .waiting := by
  show some (some (view q), (⟨((Kyk.waiting (view q)).length : Nat), Kyk.waiting (view q)⟩ : Kyk.Ans)) = some (some (view q), waitR q)
  rw [waiting_view]
  rfl
theorem a_all : acted q .all := by
  show some (some (view q), (⟨(q.now : Nat), [q.orders.length, (view q).items.length, (Kyk.waiting (view q)).length]⟩ : Kyk.Ans)) = some (some (view q), allR q)
  rw [waiting_view, view_len]
  rfl
theorem act_view (ok : Ok q) (st : ∀ y ∈ q.orders, y.state ≤ 4) (c : Kyk.Call) : acted q c := by
  cases c with
  | start p b => exact a_start p b
  | order d => exact a_order ok d
  | add o t n k r w => exact a_add ok o t n k r w
  | close o => exact a_close ok o
  | plan k => exact a_plan k
  | run k j => exact a_run ok k j
  | tick t => exact a_tick ok t
  | broken k o => exact a_broken ok k o
  | pack o => exact a_pack ok o
  | hand o => exact a_hand ok o
  | cancel o => exact a_cancel ok o
  | bill o => exact a_bill o
  | where_ i => exact a_where i
  | label i => exact a_label i
  | thing i => exact a_thing i
  | apart l => exact a_apart l
  | waiting => exact a_waiting
  | machine k => rfl
  | inside k => rfl
  | state o => exact a_state o
  | late => exact a_late st
  | next => rfl
  | till => rfl
  | all => exact a_all
end
end Wash
/-! A whole line of calls. -/
namespace Wash
open Kyk (say)
theorem whole_id (c : List (List Int)) : PyKyk.whole c = c := by
  unfold PyKyk.whole
  split <;> rfl
/-! the orders' states -/
theorem set_st {q : Kyk.Laundry} {o s : Nat} {y : Kyk.Order} (hy : q.orders[o]? = some y) (h : ∀ y ∈ q.orders, y.state ≤ 4) (hs : s ≤ 4) : ∀ y ∈ (Kyk.setOrder q o s).orders, y.state ≤ 4 := fun z hz => by
  rw [setOrder_eq hy] at hz
  rcases List.mem_or_eq_of_mem_set hz with hz | rfl
  · exact h z hz
  · exact hs
theorem act_st (q : Kyk.Laundry) (c : Kyk.Call) (h : ∀ y ∈ q.orders, y.state ≤ 4) : ∀ y ∈ (act q c).1.orders, y.state ≤ 4 := by
  cases c with
  | start p b =>
    show ∀ y ∈ (startQ q p b).1.orders, _
    unfold startQ
    split
    · exact h
    · exact fun y hy => nomatch hy
  | order d =>
    show ∀ y ∈ (orderQ q d).1.orders, _
    unfold orderQ
    split
    · exact h
    · split
      · exact h
      · intro y hy
        rcases List.mem_append.mp hy with hy | hy
        · exact h y hy
        · have : y = ⟨d, 0⟩ := by simpa using hy
          rw [this]
          exact Nat.zero_le _
  | add o t n k r w =>
    show ∀ y ∈ (addQ q o n k r w t).1.orders, _
    unfold addQ
    split
    · exact h
    · split
      · exact h
      · split <;> exact h
  | close o =>
    show ∀ y ∈ (closeQ q o).1.orders, _
    unfold closeQ
    split
    · exact h
    · rename_i c
      split
      · exact h
      · obtain ⟨_, y, hy, _⟩ := stRef_neg c
        exact set_st hy h (by decide)
  | pack o =>
    show ∀ y ∈ (packQ q o).1.orders, _
    unfold packQ
    split
    · exact h
    · rename_i c
      split
      · exact h
      · obtain ⟨_, y, hy, _⟩ := stRef_neg c
        exact set_st hy h (by decide)
  | cancel o =>
    show ∀ y ∈ (cancelQ q o).1.orders, _
    unfold cancelQ
    split
    · exact h
    · rename_i c
      split
      · exact h
      · obtain ⟨_, y, hy, _⟩ := stRef_neg c
        exact set_st hy h (by decide)
  | hand o =>
    show ∀ y ∈ (handQ q o).1.orders, _
    unfold handQ
    split
    · exact h
    · rename_i c
      obtain ⟨_, y, hy, _⟩ := stRef_neg c
      exact set_st (s := 3) hy h (by decide)
  | tick t =>
    show ∀ y ∈ (tickQ q t).1.orders, _
    unfold tickQ
    split <;> exact h
  | broken k o =>
    show ∀ y ∈ (brokenQ q k o).1.orders, _
    unfold brokenQ
    split
    · exact h
    · split
      · exact h
      · split <;> exact h
  | run k j =>
    show ∀ y ∈ (runQ q k j).1.orders, _
    unfold runQ
    split
    · exact h
    · split <;> exact h
  | _ => exact h
/-- the document's state and ours -/
def Sim (s : Option Kyk.Laundry) (q : Kyk.Laundry) : Prop := s = none ∨ s = some (view q)
theorem view_fresh (p : Nat) (b : List Nat) : view (freshQ p b) = ⟨0, p, b.map fun x => ⟨x, false, [], 0, Kyk.mild⟩, [], [], 0⟩ := rfl
theorem step_sim {s : Option Kyk.Laundry} {q : Kyk.Laundry} (S : Sim s q) (ok : Ok q) (st : ∀ y ∈ q.orders, y.state ≤ 4) {c : List (List Int)} {k : Kyk.Call} (hc : KykNeutral.callOf c = some k) (may : (KykNeutral.step s c).2.isEmpty = false) :
    (KykNeutral.step s c).2 = toL (act q k).2 ∧ Sim (KykNeutral.step s c).1 (act q k).1 := by
  unfold KykNeutral.step at may ⊢
  rw [hc] at may ⊢
  rcases S with rfl | rfl
  · cases k with
    | start p b =>
      show toL (if Kyk.okStart p b = false then (none, say (-22)) else (some (view (freshQ p b)), say 0)).2 = toL (startQ q p b).2 ∧ Sim (if Kyk.okStart p b = false then (none, say (-22)) else (some (view (freshQ p b)), say 0)).1 (startQ q p b).1
      unfold startQ
      split
      · exact ⟨rfl, .inl rfl⟩
      · exact ⟨rfl, .inr rfl⟩
    | _ => cases may
  · have h : Kyk.acts (some (view q)) k = some (some (view (act q k).1), (act q k).2) := act_view ok st k
    show (match Kyk.acts (some (view q)) k with
      | none => (some (view q), [])
      | some (t, a) => (t, a.value :: KykNeutral.ints a.out)).2 = _ ∧ Sim (match Kyk.acts (some (view q)) k with
      | none => (some (view q), [])
      | some (t, a) => (t, a.value :: KykNeutral.ints a.out)).1 _
    rw [h]
    exact ⟨rfl, .inr rfl⟩
theorem play_sim : ∀ (raw : List (List (List Int))) (cs : List Kyk.Call) (s : Option Kyk.Laundry) (q : Kyk.Laundry), raw.map KykNeutral.callOf = cs.map some → Sim s q → Ok q → (∀ y ∈ q.orders, y.state ≤ 4) → KykNeutral.may s raw = true → PyFlat.played KykNeutral.step s raw = runA q cs
  | [], [], _, _, _, _, _, _, _ => rfl
  | [], _ :: _, _, _, h, _, _, _, _ => by cases h
  | _ :: _, [], _, _, h, _, _, _, _ => by cases h
  | c :: raw, k :: cs, s, q, h, S, ok, st, may => by
    rw [List.map_cons, List.map_cons] at h
    obtain ⟨h1, h2⟩ := List.cons.inj h
    unfold KykNeutral.may at may
    rw [Bool.and_eq_true, Bool.not_eq_true'] at may
    obtain ⟨g1, g2⟩ := step_sim S ok st h1 may.1
    show (KykNeutral.step s c).2 :: PyFlat.played KykNeutral.step (KykNeutral.step s c).1 raw = toL (act q k).2 :: runA (act q k).1 cs
    rw [g1, play_sim raw cs _ _ h2 g2 (act_ok q k ok) (act_st q k st) may.2]
/-! one call's words -/
def cst (l : List Nat) : List Int := l.map fun n : Nat => (n : Int)
theorem nat_of {z : Int} {b : Nat} (h : KykNeutral.natural z b = true) : ((z.toNat : Nat) : Int) = z := by
  unfold KykNeutral.natural at h
  rw [Bool.and_eq_true, decide_eq_true_eq] at h
  exact Int.toNat_of_nonneg h.1
theorem row_of {a : List Int} {b n : Nat} (h : KykNeutral.row a b n = true) : cst (KykNeutral.natsOf a) = a ∧ a.length ≤ n ∧ ∀ z ∈ a, KykNeutral.natural z b = true := by
  unfold KykNeutral.row at h
  rw [Bool.and_eq_true, decide_eq_true_eq, List.all_eq_true] at h
  refine ⟨?_, h.2, h.1⟩
  unfold cst KykNeutral.natsOf
  rw [List.map_map]
  conv => rhs; rw [← List.map_id a]
  exact List.map_congr_left fun z hz => nat_of (h.1 z hz)
theorem one_call {c : List (List Int)} (h : KykNeutral.asked1 c = true) : ∃ k, KykNeutral.callOf c = some k ∧ PyFlat.put1 c = cst (encN k) ∧ rowOk k := by
  unfold KykNeutral.asked1 at h
  split at h <;> (try simp only [Bool.and_eq_true] at h)
  · rename_i b a
    obtain ⟨h1, h2⟩ := h
    obtain ⟨r1, r2, _⟩ := row_of h2
    refine ⟨_, rfl, ?_, ?_⟩
    · show _ = cst (0 :: ([b.toNat] ++ ((KykNeutral.natsOf a).length :: KykNeutral.natsOf a)))
      unfold cst at r1 ⊢
      rw [List.map_cons, List.map_append, List.map_cons, List.map_cons, r1]
      show _ = _ :: (_ :: [] ++ _ :: a)
      rw [nat_of h1]
      simp [PyFlat.put1, PyFlat.putRows, PyFlat.putRow, KykNeutral.natsOf]
    · exact ⟨by unfold KykNeutral.natsOf; rw [List.length_map]; omega, fun n _ z => nomatch z⟩
  · rename_i a
    exact ⟨_, rfl, by show _ = [((1 : Nat) : Int), ((a.toNat : Nat) : Int)]; rw [nat_of h]; rfl, trivial⟩
  · rename_i a b c d e t
    obtain ⟨h1, h2, h3, h4, h5, h6⟩ := h
    obtain ⟨r1, r2, r3⟩ := row_of h6
    refine ⟨_, rfl, ?_, ?_⟩
    · show _ = cst (2 :: ([a.toNat, b.toNat, c.toNat, d.toNat, e.toNat] ++ ((KykNeutral.natsOf t).length :: KykNeutral.natsOf t)))
      unfold cst at r1 ⊢
      rw [List.map_cons, List.map_append, List.map_cons, List.map_cons, List.map_cons, List.map_cons, List.map_cons, List.map_cons, r1]
      rw [nat_of h1, nat_of h2, nat_of h3, nat_of h4, nat_of h5]
      simp [PyFlat.put1, PyFlat.putRows, PyFlat.putRow, KykNeutral.natsOf]
    · refine ⟨by unfold KykNeutral.natsOf; rw [List.length_map]; omega, fun n hn _ => ?_⟩
      obtain ⟨z, hz, rfl⟩ := List.mem_map.mp hn
      have := r3 z hz
      unfold KykNeutral.natural at this
      rw [Bool.and_eq_true, decide_eq_true_eq, decide_eq_true_eq] at this
      omega
  · rename_i a
    exact ⟨_, rfl, by show _ = [((3 : Nat) : Int), ((a.toNat : Nat) : Int)]; rw [nat_of h]; rfl, trivial⟩
  · rename_i a
    exact ⟨_, rfl, by show _ = [((4 : Nat) : Int), ((a.toNat : Nat) : Int)]; rw [nat_of h]; rfl, trivial⟩
  · rename_i a b
    exact ⟨_, rfl, by show _ = [((5 : Nat) : Int), ((a.toNat : Nat) : Int), ((b.toNat : Nat) : Int)]; rw [nat_of h.1, nat_of h.2]; rfl, trivial⟩
  · rename_i a
    exact ⟨_, rfl, by show _ = [((6 : Nat) : Int), ((a.toNat : Nat) : Int)]; rw [nat_of h]; rfl, trivial⟩
  · rename_i a b
    exact ⟨_, rfl, by show _ = [((7 : Nat) : Int), ((a.toNat : Nat) : Int), ((b.toNat : Nat) : Int)]; rw [nat_of h.1, nat_of h.2]; rfl, trivial⟩
  · rename_i a
    exact ⟨_, rfl, by show _ = [((8 : Nat) : Int), ((a.toNat : Nat) : Int)]; rw [nat_of h]; rfl, trivial⟩
  · rename_i a
    exact ⟨_, rfl, by show _ = [((9 : Nat) : Int), ((a.toNat : Nat) : Int)]; rw [nat_of h]; rfl, trivial⟩
  · rename_i a
    exact ⟨_, rfl, by show _ = [((10 : Nat) : Int), ((a.toNat : Nat) : Int)]; rw [nat_of h]; rfl, trivial⟩
  · rename_i a
    exact ⟨_, rfl, by show _ = [((11 : Nat) : Int), ((a.toNat : Nat) : Int)]; rw [nat_of h]; rfl, trivial⟩
  · rename_i a
    exact ⟨_, rfl, by show _ = [((12 : Nat) : Int), ((a.toNat : Nat) : Int)]; rw [nat_of h]; rfl, trivial⟩
  · rename_i a
    exact ⟨_, rfl, by show _ = [((13 : Nat) : Int), ((a.toNat : Nat) : Int)]; rw [nat_of h]; rfl, trivial⟩
  · rename_i a
    exact ⟨_, rfl, by show _ = [((14 : Nat) : Int), ((a.toNat : Nat) : Int)]; rw [nat_of h]; rfl, trivial⟩
  · rename_i a
    obtain ⟨r1, r2, _⟩ := row_of h
    refine ⟨_, rfl, ?_, ?_⟩
    · show _ = cst (15 :: ([] ++ ((KykNeutral.natsOf a).length :: KykNeutral.natsOf a)))
      unfold cst at r1 ⊢
      rw [List.nil_append, List.map_cons, List.map_cons, r1]
      simp [PyFlat.put1, PyFlat.putRows, PyFlat.putRow, KykNeutral.natsOf]
    · exact ⟨by unfold KykNeutral.natsOf; rw [List.length_map]; omega, fun n _ z => nomatch z⟩
  · exact ⟨_, rfl, rfl, trivial⟩
  · rename_i a
    exact ⟨_, rfl, by show _ = [((17 : Nat) : Int), ((a.toNat : Nat) : Int)]; rw [nat_of h]; rfl, trivial⟩
  · rename_i a
    exact ⟨_, rfl, by show _ = [((18 : Nat) : Int), ((a.toNat : Nat) : Int)]; rw [nat_of h]; rfl, trivial⟩
  · rename_i a
    exact ⟨_, rfl, by show _ = [((19 : Nat) : Int), ((a.toNat : Nat) : Int)]; rw [nat_of h]; rfl, trivial⟩
  · exact ⟨_, rfl, rfl, trivial⟩
  · exact ⟨_, rfl, rfl, trivial⟩
  · exact ⟨_, rfl, rfl, trivial⟩
  · exact ⟨_, rfl, rfl, trivial⟩
  · cases h
theorem all_calls : ∀ raw : List (List (List Int)), raw.all KykNeutral.asked1 = true → ∃ cs : List Kyk.Call, raw.map KykNeutral.callOf = cs.map some ∧ PyFlat.put raw = cst (cs.flatMap encN) ∧ ∀ c ∈ cs, rowOk c
  | [], _ => ⟨[], rfl, rfl, fun _ h => nomatch h⟩
  | c :: raw, h => by
    rw [List.all_cons, Bool.and_eq_true] at h
    obtain ⟨k, h1, h2, h3⟩ := one_call h.1
    obtain ⟨cs, g1, g2, g3⟩ := all_calls raw h.2
    refine ⟨k :: cs, ?_, ?_, fun c hc => ?_⟩
    · rw [List.map_cons, List.map_cons, h1, g1]
    · show PyFlat.put1 c ++ PyFlat.put raw = _
      rw [h2, g2, List.flatMap_cons]
      unfold cst
      rw [List.map_append]
    · rcases List.mem_cons.mp hc with rfl | hc
      · exact h3
      · exact g3 c hc
theorem told_eq (l : List (List Int)) : PyFlat.told l = toldL l := rfl
/-- what is asked is a line of calls, and what the document answers is what ours does -/
theorem line_of {l : List Int} (h : PyKyk.answers_asked l = true) : ∃ cs : List Kyk.Call, l = cst (cs.flatMap encN) ∧ cs.length ≤ 500 ∧ (∀ c ∈ cs, rowOk c) ∧ PyKyk.answers l = toldL (runA (freshQ 0 []) cs) := by
  unfold PyKyk.answers_asked at h
  cases hr : PyFlat.calls PyKyk.shape l.length l with
  | none =>
    rw [hr] at h
    cases h
  | some raw =>
    rw [hr] at h
    dsimp only at h
    have idm : raw.map PyKyk.whole = raw := by
      rw [show PyKyk.whole = id from funext whole_id, List.map_id]
    rw [idm] at h
    simp only [Bool.and_eq_true] at h
    obtain ⟨⟨⟨⟨_, h500⟩, _⟩, hask⟩, _⟩ := h
    unfold KykNeutral.asked at hask
    simp only [Bool.and_eq_true] at hask
    obtain ⟨⟨_, hall⟩, hmay⟩ := hask
    obtain ⟨hput, _⟩ := PyFlat.put_calls _ _ _ hr
    obtain ⟨cs, g1, g2, g3⟩ := all_calls raw hall
    refine ⟨cs, hput.trans g2, ?_, g3, ?_⟩
    · have e := congrArg List.length g1
      rw [List.length_map, List.length_map] at e
      unfold PyFlat.atMost at h500
      have := of_decide_eq_true h500
      omega
    · unfold PyKyk.answers PyKyk.calls
      rw [hr]
      dsimp only
      rw [idm, play_sim raw cs KykNeutral.start (freshQ 0 []) g1 (.inl rfl) (fresh_ok (Nat.zero_le _) (Nat.zero_le _)) (fun y hy => nomatch hy) hmay]
      exact told_eq _
end Wash
/-! All together. -/
namespace Wash
open PySem PySem.Spec PyProof.Rows L2
theorem all_ok {P : Program} {w : World} {K : PySem.W.Frag} {mg : Str → Option Value} {base : Heap} (T : Txt K mg) (W : ∃ f, Meth K cHouse "waiting_things" f ∧ DefAtC K "waiting_things" "House.waiting_things" s_waiting_things f 269) (TB : LamX.TabB base mg 269 tabP) {fA : Addr} {fd : FuncData} (F : C8.Fun K "answers" "answers" s_answers fA fd) :
    FnOk P w K mg base C8.CX0 20 fA fd ["calls"] (spAnswers K) := by
  have label := ok_Label (P := P) (w := w) (base := base) T 
  have digit := ok_digit (P := P) (w := w) (base := base) T 
  have allowed := ok_allowed (P := P) (w := w) (base := base) T 
  have signs := ok_signs (P := P) (w := w) (base := base) T 
  have rd := ok_read (P := P) (w := w) (base := base) T digit allowed signs label
  have thing := ok_Thing (P := P) (w := w) (base := base) T 
  have inr := ok_inRange (P := P) (w := w) (base := base) T 
  have mild := ok_mild (P := P) (w := w) (base := base) T 
  have mins := ok_minutes (P := P) (w := w) (base := base) T 
  have col := ok_colours (P := P) (w := w) (base := base) T 
  have tog := ok_tog (P := P) (w := w) (base := base) T col mild
  have ld := ok_load (P := P) (w := w) (base := base) T tog
  have part := ok_partners (P := P) (w := w) (base := base) T tog
  have sha := ok_Sharing (P := P) (w := w) (base := base) T part
  have tak := ok_takes (P := P) (w := w) (base := base) T 
  have finm := ok_fin (P := P) (w := w) (base := base) T tak 10
  have fst := ok_first (P := P) (w := w) (base := base) T sha finm
  have run0 := ok_running (P := P) (w := w) (base := base) T 
  have thof := ok_thingsOf (P := P) (w := w) (base := base) T 
  have waits := ok_waits (P := P) (w := w) (base := base) T 
  have place := ok_place (P := P) (w := w) (base := base) T 
  have due := ok_due (P := P) (w := w) (base := base) T 
  have wait := ok_waiting (P := P) (w := w) (base := base) T W TB waits due
  have wfor := ok_waitFor (P := P) (w := w) (base := base) T wait
  have plo := ok_planOf (P := P) (w := w) (base := base) T fst
  have bil := ok_bill (P := P) (w := w) (base := base) T thof
  have ordI := ok_Order (P := P) (w := w) (base := base) T 
  have macI := ok_Machine (P := P) (w := w) (base := base) T 
  have beg := ok_begin (P := P) (w := w) (base := base) T macI
  have hou := ok_House (P := P) (w := w) (base := base) T beg
  have sst := ok_setState (P := P) (w := w) (base := base) T 
  have fil := ok_fill (P := P) (w := w) (base := base) T 
  have tko := ok_takeOut (P := P) (w := w) (base := base) T 
  have wsh := ok_wash (P := P) (w := w) (base := base) T run0 tko
  have rref := ok_runRef (P := P) (w := w) (base := base) T wfor run0
  have plan := ok_plan (P := P) (w := w) (base := base) T wfor plo
  have tellM := ok_tellMac (P := P) (w := w) (base := base) T run0
  have ins := ok_inside (P := P) (w := w) (base := base) T 
  have nxt := ok_next (P := P) (w := w) (base := base) T run0
  have tck := ok_tick (P := P) (w := w) (base := base) T wsh
  have brk := ok_broken (P := P) (w := w) (base := base) T tko
  have rn := ok_run (P := P) (w := w) (base := base) T wfor plo fil rref mild mins
  have stR := ok_stRef (P := P) (w := w) (base := base) T 
  have drm := ok_drums (P := P) (w := w) (base := base) T 
  have strt := ok_start (P := P) (w := w) (base := base) T drm beg
  have ordr := ok_order (P := P) (w := w) (base := base) T ordI
  have cls := ok_close (P := P) (w := w) (base := base) T stR thof sst
  have pck := ok_pack (P := P) (w := w) (base := base) T stR thof sst
  have cnl := ok_cancel (P := P) (w := w) (base := base) T stR thof sst
  have bilC := ok_billC (P := P) (w := w) (base := base) T bil
  have hnd := ok_hand (P := P) (w := w) (base := base) T stR bil sst
  have tst := ok_tellState (P := P) (w := w) (base := base) T place thof
  have lat := ok_isLate (P := P) (w := w) (base := base) T 
  have tlat := ok_tellLate (P := P) (w := w) (base := base) T lat
  have tl := ok_till (P := P) (w := w) (base := base) T 
  have al := ok_all (P := P) (w := w) (base := base) T wait
  have thr := ok_thgRef (P := P) (w := w) (base := base) T inr ld
  have ad := ok_add (P := P) (w := w) (base := base) T stR rd thing thr
  have whr := ok_where (P := P) (w := w) (base := base) T place
  have tlab := ok_tellLabel (P := P) (w := w) (base := base) T signs
  have tthg := ok_tellThing (P := P) (w := w) (base := base) T 
  have twt := ok_tellWait (P := P) (w := w) (base := base) T wait
  have ap := ok_areApart (P := P) (w := w) (base := base) T tog
  have tap := ok_tellApart (P := P) (w := w) (base := base) T ap
  have isO' := ok_isO (P := P) (w := w) (base := base) T 
  have isM' := ok_isM (P := P) (w := w) (base := base) T 
  have aO := ok_answer_order_call (P := P) (w := w) (base := base) T strt ordr ad cls pck hnd cnl bilC tst tlat tl al
  have aM := ok_answer_machine_call (P := P) (w := w) (base := base) T plan rn tck brk tellM ins nxt
  have aT := ok_answer_thing_call (P := P) (w := w) (base := base) T whr tlab tthg tap twt
  have ans := ok_answer (P := P) (w := w) (base := base) T isO' isM' aO aM aT
  have rdc := ok_readC (P := P) (w := w) (base := base) T 
  exact ok_answers T F hou rdc ans (fresh_ok (Nat.zero_le _) (Nat.zero_le _)) act_ok act_len
end Wash
/-! The end: the row's def called where one table of code objects stands empty. -/
namespace Wash
open PySem PySem.Spec PyProof.Rows L2
open PySem.W (WData Codec OpenSpec Well WellAll ReadsW ReadsAllW)
/-- the arguments and the empty table -/
def withT (H : Hp) : Hp := fun b => if b = tabP then some (.tbl #[]) else H b
theorem withT_is {H : Hp} {b : Addr} {u : HO} (e : withT H b = some u) : (b = tabP ∧ u = .tbl #[]) ∨ (b ≠ tabP ∧ H b = some u) := by
  unfold withT at e
  by_cases c : b = tabP
  · rw [if_pos c] at e
    exact .inl ⟨c, (Option.some.inj e).symm⟩
  · rw [if_neg c] at e
    exact .inr ⟨c, e⟩
theorem withT_at {H : Hp} : withT H tabP = some (.tbl #[]) := if_pos rfl
theorem withT_up {H : Hp} (n : H tabP = none) {b : Addr} {u : HO} (e : H b = some u) : withT H b = some u := by
  unfold withT
  rw [if_neg]
  · exact e
  · intro z
    rw [z, n] at e
    cases e
abbrev bareT : Obj := { cls := .none, data := .fields #[] }
section
variable {P : Program} {w : World} {K : PySem.W.Frag} {mg mb : Str → Option Value} {k : Nat} {fa : Addr} {fd : FuncData} {ps : List Str} {sp : Sp} {sh : Shared} {vals : List Value} {ds : List WData} {R : PySem.W.WRecords} {cl : Str → Option Addr} {d0 : WData}
theorem tab_run (KX : K.In sh.heap) (gl : sh.heap.Ns mainGlobals mg) (gb : sh.heap.Ns builtinsNs mb) (bt : ∀ x : Str, x ≠ "__name__" → mb x = bootBuiltins x) (nl : sh.heap.NoLimit) (ng : sh.gens = #[]) (wl : WellAll w.params sh.heap vals ds) (pl : plWs ds = true) (wt : ∀ d ∈ ds, d.weight ≤ 1048576) (room : Room k callerA)
    (hT : sh.heap.get? tabP = some bareT) (nT : K.lookup tabP = none) (C : PySem.W.CodeHd sh.heap 269 tabP)
    (hbm : ∃ (bm : Addr) (ob : Obj), mg "__builtins__" = some (.ref bm) ∧ bm ≠ builtinsNs ∧ sh.heap.get? bm = some ob ∧ ob.cls = .type "module" ∧ ob.dict = some builtinsNs ∧ ob.data = .plain)
    (F : ∀ base : Heap, K.In base → base.Ns mainGlobals mg → LamX.TabB base mg 269 tabP → FnOk P w K mg base C8.CX0 k fa fd ps sp) (bind : ∀ (s : Shared) (us : List Value), us.length = ps.length → BindsTo s fd ⟨us, []⟩ (ps.zip us)) (len : ds.length = ps.length)
    (hsp : ∀ (H0 : Hp) (xs : List V), OnlyF H0 → H0 tabP = none → DwAll K H0 xs ds → sp xs (withT H0) (fun v H' => Dw K H' v d0) fun _ _ _ => False) :
    codeAny (model P w) callerA (.call (.ref fa) ⟨vals, []⟩) (fun r s' => ∃ u as, r = .ok (.ret u) ∧ ReadsW R cl s'.heap u d0 as ∧ OldK sh.heap s'.heap ∧ s'.os = sh.os ∧ AllBare s'.gens) sh := by
  obtain ⟨Ar, inA, obA⟩ := area_all ds vals wl pl wt
  have t0 : argH K sh.heap Ar tabP = none := by
    cases q : argH K sh.heap Ar tabP with
    | none => rfl
    | some u =>
      obtain ⟨_, us, _, _, ⟨e, _⟩ | ⟨e, _⟩⟩ := argH_is obA q <;> (rw [hT] at e; cases e)
  have isSeq : ∀ {b : Addr} {u : HO} {o : Obj}, argH K sh.heap Ar b = some u → sh.heap.get? b = some o → (∃ us n, o.data = .seq us n) ∧ K.lookup b = none := fun {b u o} q e => by
    obtain ⟨kn, us, _, _, ⟨e2, _⟩ | ⟨e2, _⟩⟩ := argH_is obA q <;> (rw [e2] at e; cases e; exact ⟨⟨_, _, rfl⟩, kn⟩)
  have hok : HOk P w (withT (argH K sh.heap Ar)) sh.heap := fun b u e => by
    rcases withT_is e with ⟨rfl, rfl⟩ | ⟨_, e⟩
    · exact hT
    · exact (argH_ok obA b u e).stay (fun _ _ _ z => z) (fun _ z => withT_up t0 z) fun _ _ z => withT_up t0 z
  have dw := dw_all KX obA ds vals wl pl inA
  have vv := vals_toV inA
  have only : OnlyF (argH K sh.heap Ar) := argH_only obA
  generalize argH K sh.heap Ar = H0 at t0 isSeq hok dw only
  have free : ∀ {b : Addr} {o : Obj}, sh.heap.get? b = some o → (∀ us n, o.data ≠ .seq us n) → o.data ≠ .fields #[] → withT H0 b = none := fun {b o} e n1 n2 => by
    cases q : withT H0 b with
    | none => rfl
    | some u =>
      rcases withT_is q with ⟨z, _⟩ | ⟨_, z⟩
      · rw [z, hT] at e
        cases e
        exact absurd rfl n2
      · obtain ⟨⟨us, n, z2⟩, _⟩ := isSeq z e
        exact absurd z2 (n1 us n)
  have inK : ∀ b o, K.lookup b = some o → withT H0 b = none := fun b o e => by
    cases q : withT H0 b with
    | none => rfl
    | some u =>
      rcases withT_is q with ⟨z, _⟩ | ⟨_, z⟩
      · rw [z, nT] at e
        cases e
      · have := (isSeq z (KX b o e)).2
        rw [e] at this
        cases this
  have keepN : ∀ {b : Addr} {m : Str → Option Value}, sh.heap.Ns b m → (hidT sh.heap (withT H0)).Ns b m := fun {b m} h => by
    obtain ⟨o, es, ep, e, d, r⟩ := h
    exact ⟨o, es, ep, hidT_get e (free e (fun us n z => by rw [d] at z; cases z) fun z => by rw [d] at z; cases z), d, r⟩
  have baseK : K.In (hidT sh.heap (withT H0)) := fun b o e => hidT_get (KX b o e) (inK b o e)
  have md : Mod K mg (hidT sh.heap (withT H0)) := by
    obtain ⟨mc, n1, n2⟩ := nl
    exact ⟨baseK, keepN gl, ⟨mb, keepN gb, bt⟩, ⟨mc, keepN n1, n2⟩⟩
  have notG : ∀ {b : Addr} {o : Obj} {d : Data}, sh.heap.get? b = some o → o.data = d → (∀ es ep, d ≠ .dict es ep) → b ≠ mainGlobals := fun {b o d} e ed n z => by
    obtain ⟨og, es, ep, e2, d2, _⟩ := gl
    rw [z, e2] at e
    cases e
    exact n es ep (ed.symm.trans d2)
  have TBx : LamX.TabB (hidT sh.heap (withT H0)) mg 269 tabP := by
    refine ⟨?_, ?_, fun z => notG hT rfl (fun _ _ y => by cases y) z.symm⟩
    · obtain ⟨o, us, file, tf, flags, tg, inF, text, tt, e1, r1, r2, r3, r⟩ := C
      refine ⟨o, us, file, tf, flags, tg, inF, text, tt, hidT_get e1 (free e1 ?_ ?_), r1, r2, r3, r⟩
      · intro vs n z
        rw [r2] at z
        cases z
      · intro z
        rw [r2] at z
        cases z
        simp at r3
    · obtain ⟨bm, ob, b1, b2, b3, b4, b5, b6⟩ := hbm
      refine ⟨bm, ob, b1, b2, notG b3 b6 (fun _ _ y => by cases y), fun z => ?_, hidT_get b3 (free b3 (fun vs n z => ?_) fun z => ?_), b4, b5, b6⟩
      · rw [z, hT] at b3
        cases b3
        cases b6
      · rw [b6] at z
        cases z
      · rw [b6] at z
        cases z
  have e0 : Env0 P w K mg (hidT sh.heap (withT H0)) callerA [] sh (withT H0) := ⟨rfl, md, fun b o e => of_hidT e, Nat.le_of_eq (hidT_size _ _), trivial, fun b z => (nomatch z), hok, .of_eq ng⟩
  refine codeAny_mono ((F _ baseK (keepN gl) TBx).run callerA [] sh (withT H0) ⟨vals, []⟩ vals _ _ _ room e0 (bind sh vals (by rw [wellAll_len wl]; exact len)) vv (hsp H0 _ only t0 dw)) fun r s' x => ?_
  match r, x with
  | .error e, x => exact (show False from x).elim
  | .ok .next, x => exact (show False from x).elim
  | .ok .brk, x => exact (show False from x).elim
  | .ok .cont, x => exact (show False from x).elim
  | .ok (.ret u), x =>
    obtain ⟨v, H', os, bare, un, hok', rv, q⟩ := x
    have kept : ∀ b o, b ≠ tabP → sh.heap.get? b = some o → s'.heap.get? b = some o := fun b o nb e => by
      cases z : withT H0 b with
      | none => exact un.keep b o e z (fun y => (nomatch y)) (fun y => (nomatch y))
      | some u2 =>
        rcases withT_is z with ⟨y, _⟩ | ⟨_, y⟩
        · exact absurd y nb
        · rcases only b with y2 | ⟨ob, u3, y2⟩
          · rw [y] at y2
            cases y2
          · have z1 := withT_up t0 y2
            have k1 := (hok b _ z1).1
            have k2 := (hok' b _ (un.frzs b ob u3 z1)).1
            rw [e] at k1
            cases k1
            exact k2
    obtain ⟨more, zt⟩ := un.tbls tabP #[] withT_at
    have grown : s'.heap.get? tabP = some { cls := .none, data := .fields (#[] ++ more) } := hok' tabP _ zt
    obtain ⟨as, hrd⟩ := Dw.reads (R := R) (cl := cl) hok' (fun b o e => kept b o (fun z => by rw [z, nT] at e; cases e) (KX b o e)) d0 v u q rv
    refine ⟨u, as, rfl, hrd, ⟨fun b o e => ?_, fun b o e => ?_⟩, os, bare⟩
    · by_cases c : b = tabP
      · rw [c] at e ⊢
        rw [hT] at e
        cases e
        exact .inr (.inl ⟨(C.tab hT).isCodeTable, rfl, #[], more, rfl, grown⟩)
      · exact .inl (kept b o c e)
    · by_cases c : b = tabP
      · rw [c]
        exact ⟨_, grown⟩
      · exact ⟨o, kept b o c e⟩
end
end Wash
namespace Wash
open PySem PySem.Spec PyProof.Rows L2
open PySem.W (WData Codec OpenSpec Well WellAll ReadsW ReadsAllW)
theorem walk_tab {r : OpenSpec} {k : Nat} {q : Program} {loose : List Str} {XP : (Str → Option Value) → Heap → Prop} {YP : World → Heap → Prop} {d : DefRec} {K : Params → PySem.W.Frag} {ps : List Str} {sp : PySem.W.Frag → Sp} (said : r.wellSaid = true) (many : r.args.length = ps.length) (room : Room k callerA)
    (hY : ∀ (w : World) (h : Heap), YP w h → (K w.params).In h ∧ h.get? tabP = some bareT)
    (F : ∀ (w : World) (mg : Str → Option Value) (fa : Addr) (h : Heap), (K w.params).In h → h.Ns mainGlobals mg → mg d.name = some (.ref fa) → ∃ fd : FuncData, (∀ (s : Shared) (us : List Value), us.length = ps.length → BindsTo s fd ⟨us, []⟩ (ps.zip us)) ∧ (K w.params).lookup tabP = none ∧ PySem.W.CodeHd h 269 tabP ∧
      ∀ base : Heap, (K w.params).In base → base.Ns mainGlobals mg → LamX.TabB base mg 269 tabP → FnOk r.prog w (K w.params) mg base C8.CX0 k fa fd ps (sp (K w.params)))
    (hsp : ∀ (K : PySem.W.Frag) (H0 : Hp) (xs : List V) (a : Codec.denoteAll r.args), OnlyF H0 → H0 tabP = none → Codec.withinAll r.args a = true → Codec.app r.args r.asked a = true → DwAll K H0 xs (Codec.encAll r.args a) →
      sp K xs (withT H0) (fun v H' => Dw K H' v (r.ret.enc (Codec.app r.args r.f a))) fun _ _ _ => False) :
    PySem.W.WalkOS q loose XP YP r d [] (fun f vs => PySem.call f vs) := by
  intro w sA sB mg mb G Y fa o pm cd doc dV kV _ _ _ _ hmg ng args vals as pre lay _ wl _
  obtain ⟨a, e1, asked⟩ := PySem.W.os_pre_some pre
  obtain ⟨rfl, within⟩ := Codec.encAll_of_decAll r.args args a e1
  obtain ⟨KX, hT⟩ := hY w _ Y
  obtain ⟨fd, hb, nT, C, hF⟩ := F w mg fa _ KX G.T.g hmg
  refine PySem.W.enter_call (codeAny_mono (tab_run (R := []) (cl := classAt sA.heap) (d0 := r.ret.enc (Codec.app r.args r.f a)) KX G.T.g G.T.b G.T.builtins G.T.nolimit ng wl (pl_encAll _ _) (layable_weight lay) room hT nT C G.T.bmain hF hb (by rw [encAll_len]; exact many) fun H0 xs h1 h2 h3 => hsp _ H0 xs a h1 h2 within asked h3) fun r' s' hq => ?_)
  obtain ⟨u, as', rfl, g1, g2, g3, g4⟩ := hq
  exact ⟨.inl ⟨u, _, as', rfl, fun _ => rfl, g1, (OpenSpec.post_iff said within _ _).mpr rfl, fun z => Bool.noConfusion (show false = true from z)⟩, g2, g3, g4⟩
theorem fin_mk {P : Program} {w : World} {K : PySem.W.Frag} {mg : Str → Option Value} {h : Heap} {fa : Addr} (X : K.In h) (T : Txt K mg) (W : ∃ f, Meth K cHouse "waiting_things" f ∧ DefAtC K "waiting_things" "House.waiting_things" s_waiting_things f 269) (hfa : mg "answers" = some (.ref fa)) (nT : K.lookup tabP = none) (hc : PySem.W.codeHdIn K 269 tabP = true) :
    ∃ fd : FuncData, (∀ (s : Shared) (us : List Value), us.length = (["calls"] : List Str).length → BindsTo s fd ⟨us, []⟩ ((["calls"] : List Str).zip us)) ∧ K.lookup tabP = none ∧ PySem.W.CodeHd h 269 tabP ∧ ∀ base : Heap, K.In base → base.Ns mainGlobals mg → LamX.TabB base mg 269 tabP → FnOk P w K mg base C8.CX0 20 fa fd ["calls"] (spAnswers K) := by
  have e := hfa.symm.trans T.m_answers
  cases e
  obtain ⟨oc, od, kV, doc, pm, an, cdv, ct, osl, hl, hcd⟩ := T.d_answers.ex
  refine ⟨_, fun s us hu => match us, hu with | [_], _ => .of_eq rfl, nT, PySem.W.codeHd_of_K X hc, fun base _ _ TB => all_ok T W TB ⟨oc, od, .none, kV, doc, pm, an, cdv, ct, osl, rfl, hl, hcd⟩⟩
/-- what is wanted of the def, from what is asked -/
theorem want {K : PySem.W.Frag} {H0 : Hp} {l : List Int} {a : Addr} (only : OnlyF H0) (n0 : H0 tabP = none) (hs : SqL K H0 a (l.map V.int)) (ask : PyKyk.answers_asked l = true) {Q : VK} (q : ∀ p H', H' p = some (.lst ((PyKyk.answers l).map V.int)) → Q (.ref p) H') (E : XK) : spAnswers K [.ref a] (withT H0) Q E := by
  obtain ⟨cs, e, h500, hrow, hans⟩ := line_of ask
  refine ⟨a, cs, rfl, fun H' kp => ?_, h500, hrow, LamX.TabS.nil withT_at, fun p H' hp => q p H' (by rw [hans]; exact hp)⟩
  have em : l.map V.int = (cs.flatMap encN).map nV := by
    rw [e]
    exact map_int _
  rw [← em]
  rcases hs with (hs | ⟨o, hs⟩) | hs
  · rcases only a with z | ⟨o, u, z⟩
    · rw [z] at hs
      cases hs
    · rw [z] at hs
      cases hs
  · exact .inl (.inr ⟨o, kp _ _ (withT_up n0 hs)⟩)
  · exact .inr hs
/-! the top's words, one by one -/
section
variable {K : PySem.W.Frag} {mg : Str → Option Value} {h : Heap} {x : Str}
theorem f_int {z : Int} {t : Tok} (X : K.In h) (G : h.Ns mainGlobals mg) (e : PySem.W.nsIn K mainGlobals x = some (some (.int z t))) : ∃ u, mg x = some u ∧ RelV (.int z) u := ⟨_, PySem.W.mg_of X G e, ⟨t, rfl⟩⟩
theorem f_ref {a : Addr} (X : K.In h) (G : h.Ns mainGlobals mg) (e : PySem.W.nsIn K mainGlobals x = some (some (.ref a))) : ∃ u, mg x = some u ∧ RelV (.ref a) u := ⟨_, PySem.W.mg_of X G e, rfl⟩
theorem f_def {qual : Str} {st : Stmt} {f : Addr} {oc : Value} {od : Option Addr} {kV doc pm : Value} {an : Option Addr} {cdv ct : Value} {osl : Array (Option Value)} (l : K.lookup f = some ⟨oc, od, .func (PySem.W.fnOf x qual (C8.fnArgs st) (C8.fnBody st) (C8.fnScope st) .none kV doc pm an cdv ct), osl⟩) (c : PySem.W.codeIn K cdv qual = true) (k : PySem.W.keepIn K (.ref f) = true) : DefAt K x qual st f := ⟨⟨oc, od, kV, doc, pm, an, cdv, ct, osl, l, c⟩, k⟩
theorem f_meth {qual : Str} {st : Stmt} {C f : Addr} (a : PySem.W.findIn K (.ref C) x = some (some (.ref f))) (i : PySem.W.isFn K (.ref f) = true) (k : PySem.W.keepIn K (.ref f) = true) (d : DefAt K x qual st f) : ∃ f, Meth K C x f ∧ DefAt K x qual st f := ⟨f, ⟨a, i, k⟩, d⟩
theorem f_methC {qual : Str} {st : Stmt} {C f c : Addr} {oc : Value} {od : Option Addr} {kV doc pm : Value} {an : Option Addr} {cdv ct : Value} {osl : Array (Option Value)} (a : PySem.W.findIn K (.ref C) x = some (some (.ref f))) (i : PySem.W.isFn K (.ref f) = true) (k : PySem.W.keepIn K (.ref f) = true) (l : K.lookup f = some ⟨oc, od, .func (PySem.W.fnOf x qual (C8.fnArgs st) (C8.fnBody st) (C8.fnScope st) .none kV doc pm an cdv ct), osl⟩) (e : cdv = .ref c) (g : PySem.W.codeIn K cdv qual = true) : ∃ f, Meth K C x f ∧ DefAtC K x qual st f c := ⟨f, ⟨a, i, k⟩, ⟨oc, od, kV, doc, pm, an, ct, osl, by rw [← e]; exact l, by rw [← e]; exact g⟩⟩
theorem f_mk {qual : Str} {st : Stmt} {C f : Addr} (m : PySem.W.makesIn K C = true) (a : PySem.W.findIn K (.ref C) "__init__" = some (some (.ref f))) (i : PySem.W.isFn K (.ref f) = true) (k : PySem.W.keepIn K (.ref C) = true) (d : DefAt K "__init__" qual st f) : ∃ f, Mk K C f ∧ DefAt K "__init__" qual st f := ⟨f, ⟨m, a, i, k⟩, d⟩
theorem f_tup {a : Addr} {its : Array Value} {xs : List V} (l : K.lookup a = some { cls := .type "tuple", data := .seq its }) (z : its.size ≤ 1000) (v : Vals xs its.toList) : ∀ H, SqT K H a xs := fun H => .inr ⟨_, its, 0, l, rfl, rfl, Nat.le_trans z (by decide), v⟩
def entsOf (vs : List (Int × Tok × Value)) : List DictEntry := vs.map fun p => ⟨p.1, .int p.1 p.2.1, p.2.2⟩
theorem f_tab {d : Addr} {n : Nat} {es : Array DictEntry} {kvs : List (Int × V)} {vs : List (Int × Tok × Value)} (l : K.lookup d = some { cls := .type "dict", data := .dict es n }) (he : es.toList = entsOf vs) (hk : vs.map (·.1) = kvs.map (·.1)) (hv : Vals (kvs.map (·.2)) (vs.map (·.2.2))) (nd : (kvs.map (·.1)).Nodup) (b : ∀ p ∈ kvs, 0 ≤ p.1 ∧ p.1 < 1000) (s : (d == sysModules) = false) : KTab K d kvs := ⟨es, n, vs, l, he, hk, hv, nd, b, s⟩
end
end Wash
/-! ## The end -/
namespace Wash
open PySem PySem.W PyProof.Rows
/-- the head tells the written part, and one empty table besides -/
def hook (t : Addr) (K : Params → Frag) (as : List Addr) (e : ∀ P, as = (K P).map (·.1)) : Hook where
  α := List (Option Obj) × Option Obj
  obs := fun s => (as.map s.heap.get?, s.heap.get? t)
  val := fun w => ((K w.params).map fun p => some p.2, some bareT)
  says := fun w h => (K w.params).In h ∧ h.get? t = some bareT
  of := fun w s x => ⟨InK.of e w s (congrArg Prod.fst x), congrArg Prod.snd x⟩
  keeps := fun _ _ _ x k => ⟨Frag.In.keeps x.1 k, k _ _ x.2⟩
end Wash
local macro_rules
  | `(tactic| o_headS (kHook $k $a $e)) => `(tactic| o_headS (Wash.hook 267 $k $a $e))
open PySem PySem.W PyProof.Rows
theorem PySem.Challenge.cw_washloads_s01_answers_holds : PySem.Challenge.rw_washloads_s01_answers.Holds := by
  w_on; k_headS; (case hw => exact ⟨[.list [.int 0, .int 0, .int 0]], by decide +kernel, by decide +kernel⟩)
  k_fillS
  refine Wash.walk_tab (r := PySem.Challenge.rw_washloads_s01_answers) (k := 20) (ps := ["calls"]) (sp := Wash.spAnswers) (by decide +kernel) rfl ⟨rfl, by decide, by decide⟩ (fun w h Y => Y) ?zF ?zS
  case zF =>
    intro w mg fa h KX G hmg
    refine Wash.fin_mk KX ?zT ?zW hmg ?zn ?zhc
    case zW =>
      refine' Wash.f_methC ?za ?zi ?zk ?zl ?ze ?zc
      (case za => k_is)
      (case zi => k_is)
      (case zk => k_is)
      (case zl => k_is)
      (case ze => rfl)
      (case zc => k_is)
    case zn => kernel_rfl
    case zhc => kernel_rfl
    case zT =>
      constructor
      (case c_Label => exact ⟨by k_is, by k_is, by k_is, by k_is⟩)
      (case n_Label_heat => show PySem.W.findIn _ (.ref Wash.cLabel) "heat" = some none; k_is)
      (case n_Label_gentle => show PySem.W.findIn _ (.ref Wash.cLabel) "gentle" = some none; k_is)
      (case n_Label_bleach => show PySem.W.findIn _ (.ref Wash.cLabel) "bleach" = some none; k_is)
      (case n_Label_dry => show PySem.W.findIn _ (.ref Wash.cLabel) "dry" = some none; k_is)
      (case n_Label_iron => show PySem.W.findIn _ (.ref Wash.cLabel) "iron" = some none; k_is)
      (case c_Thing => exact ⟨by k_is, by k_is, by k_is, by k_is⟩)
      (case n_Thing_order => show PySem.W.findIn _ (.ref Wash.cThing) "order" = some none; k_is)
      (case n_Thing_label => show PySem.W.findIn _ (.ref Wash.cThing) "label" = some none; k_is)
      (case n_Thing_need => show PySem.W.findIn _ (.ref Wash.cThing) "need" = some none; k_is)
      (case n_Thing_colour => show PySem.W.findIn _ (.ref Wash.cThing) "colour" = some none; k_is)
      (case n_Thing_runs => show PySem.W.findIn _ (.ref Wash.cThing) "runs" = some none; k_is)
      (case n_Thing_weight => show PySem.W.findIn _ (.ref Wash.cThing) "weight" = some none; k_is)
      (case n_Thing_place => show PySem.W.findIn _ (.ref Wash.cThing) "place" = some none; k_is)
      (case c_Sharing => exact ⟨by k_is, by k_is, by k_is, by k_is⟩)
      (case n_Sharing_drum => show PySem.W.findIn _ (.ref Wash.cSharing) "drum" = some none; k_is)
      (case n_Sharing_weights => show PySem.W.findIn _ (.ref Wash.cSharing) "weights" = some none; k_is)
      (case n_Sharing_matches => show PySem.W.findIn _ (.ref Wash.cSharing) "matches" = some none; k_is)
      (case c_Machine => exact ⟨by k_is, by k_is, by k_is, by k_is⟩)
      (case n_Machine_bears => show PySem.W.findIn _ (.ref Wash.cMachine) "bears" = some none; k_is)
      (case n_Machine_broken => show PySem.W.findIn _ (.ref Wash.cMachine) "broken" = some none; k_is)
      (case n_Machine_inside => show PySem.W.findIn _ (.ref Wash.cMachine) "inside" = some none; k_is)
      (case n_Machine_program => show PySem.W.findIn _ (.ref Wash.cMachine) "program" = some none; k_is)
      (case n_Machine_until => show PySem.W.findIn _ (.ref Wash.cMachine) "until" = some none; k_is)
      (case c_Order => exact ⟨by k_is, by k_is, by k_is, by k_is⟩)
      (case n_Order_due => show PySem.W.findIn _ (.ref Wash.cOrder) "due" = some none; k_is)
      (case n_Order_state => show PySem.W.findIn _ (.ref Wash.cOrder) "state" = some none; k_is)
      (case c_House => exact ⟨by k_is, by k_is, by k_is, by k_is⟩)
      (case n_House_price => show PySem.W.findIn _ (.ref Wash.cHouse) "price" = some none; k_is)
      (case n_House_till => show PySem.W.findIn _ (.ref Wash.cHouse) "till" = some none; k_is)
      (case n_House_now => show PySem.W.findIn _ (.ref Wash.cHouse) "now" = some none; k_is)
      (case n_House_machines => show PySem.W.findIn _ (.ref Wash.cHouse) "machines" = some none; k_is)
      (case n_House_orders => show PySem.W.findIn _ (.ref Wash.cHouse) "orders" = some none; k_is)
      (case n_House_things => show PySem.W.findIn _ (.ref Wash.cHouse) "things" = some none; k_is)
      (case g_ALREADY => refine' Wash.f_int KX G ?q_34; (case q_34 => k_is))
      (case g_CALLED_OFF => refine' Wash.f_int KX G ?q_35; (case q_35 => k_is))
      (case g_CALLS_WITH_ROW => refine' Wash.f_ref KX G ?q_36; (case q_36 => k_is))
      (case g_CLOSED => refine' Wash.f_int KX G ?q_37; (case q_37 => k_is))
      (case g_DRYING_MINUTES => refine' Wash.f_int KX G ?q_38; (case q_38 => k_is))
      (case g_FULL => refine' Wash.f_int KX G ?q_39; (case q_39 => k_is))
      (case g_GIVEN_OUT => refine' Wash.f_int KX G ?q_40; (case q_40 => k_is))
      (case g_GONE => refine' Wash.f_int KX G ?q_41; (case q_41 => k_is))
      (case g_GREATEST_DRUM => refine' Wash.f_int KX G ?q_42; (case q_42 => k_is))
      (case g_IN_MACHINE => refine' Wash.f_int KX G ?q_43; (case q_43 => k_is))
      (case g_IN_PARCEL => refine' Wash.f_int KX G ?q_44; (case q_44 => k_is))
      (case g_IS_BROKEN => refine' Wash.f_int KX G ?q_45; (case q_45 => k_is))
      (case g_IS_EMPTY => refine' Wash.f_int KX G ?q_46; (case q_46 => k_is))
      (case g_IS_OUT => refine' Wash.f_int KX G ?q_47; (case q_47 => k_is))
      (case g_IS_RUNNING => refine' Wash.f_int KX G ?q_48; (case q_48 => k_is))
      (case g_LABEL_HEATS => refine' Wash.f_ref KX G ?q_49; (case q_49 => k_is))
      (case g_LAST_MINUTE => refine' Wash.f_int KX G ?q_50; (case q_50 => k_is))
      (case g_LEAST_DRUM => refine' Wash.f_int KX G ?q_51; (case q_51 => k_is))
      (case g_MACHINE_CALLS => refine' Wash.f_ref KX G ?q_52; (case q_52 => k_is))
      (case g_MOST_APART => refine' Wash.f_int KX G ?q_53; (case q_53 => k_is))
      (case g_MOST_BLEACH => refine' Wash.f_int KX G ?q_54; (case q_54 => k_is))
      (case g_MOST_COLOUR => refine' Wash.f_int KX G ?q_55; (case q_55 => k_is))
      (case g_MOST_DRY => refine' Wash.f_int KX G ?q_56; (case q_56 => k_is))
      (case g_MOST_GENTLE => refine' Wash.f_int KX G ?q_57; (case q_57 => k_is))
      (case g_MOST_IRON => refine' Wash.f_int KX G ?q_58; (case q_58 => k_is))
      (case g_MOST_MACHINES => refine' Wash.f_int KX G ?q_59; (case q_59 => k_is))
      (case g_MOST_ORDERS => refine' Wash.f_int KX G ?q_60; (case q_60 => k_is))
      (case g_MOST_PRICE => refine' Wash.f_int KX G ?q_61; (case q_61 => k_is))
      (case g_MOST_THINGS => refine' Wash.f_int KX G ?q_62; (case q_62 => k_is))
      (case g_MOST_WEIGHT => refine' Wash.f_int KX G ?q_63; (case q_63 => k_is))
      (case g_NONE_APART => refine' Wash.f_int KX G ?q_64; (case q_64 => k_is))
      (case g_NOTHING_THERE => refine' Wash.f_int KX G ?q_65; (case q_65 => k_is))
      (case g_NOT_ALL_WASHED => refine' Wash.f_int KX G ?q_66; (case q_66 => k_is))
      (case g_NOT_THERE => refine' Wash.f_int KX G ?q_67; (case q_67 => k_is))
      (case g_NO_LABEL => refine' Wash.f_int KX G ?q_68; (case q_68 => k_is))
      (case g_NO_LOAD => refine' Wash.f_int KX G ?q_69; (case q_69 => k_is))
      (case g_ORDER_CALLS => refine' Wash.f_ref KX G ?q_70; (case q_70 => k_is))
      (case g_OUT_OF_RANGE => refine' Wash.f_int KX G ?q_71; (case q_71 => k_is))
      (case g_PACKED => refine' Wash.f_int KX G ?q_72; (case q_72 => k_is))
      (case g_PLAIN_NUMBERS => refine' Wash.f_ref KX G ?q_73; (case q_73 => k_is))
      (case g_PROGRAM_HEATS => refine' Wash.f_ref KX G ?q_74; (case q_74 => k_is))
      (case g_SIGNS_OF_ALL => refine' Wash.f_int KX G ?q_75; (case q_75 => k_is))
      (case g_STILL_OPEN => refine' Wash.f_int KX G ?q_76; (case q_76 => k_is))
      (case g_THINGS_IN_PLAN => refine' Wash.f_int KX G ?q_77; (case q_77 => k_is))
      (case g_THING_CALLS => refine' Wash.f_ref KX G ?q_78; (case q_78 => k_is))
      (case g_UNWASHED => refine' Wash.f_int KX G ?q_79; (case q_79 => k_is))
      (case g_WASHED => refine' Wash.f_int KX G ?q_80; (case q_80 => k_is))
      (case g_WASHING_MINUTES => refine' Wash.f_ref KX G ?q_81; (case q_81 => k_is))
      (case g_WRONG_STATE => refine' Wash.f_int KX G ?q_82; (case q_82 => k_is))
      (case b_all => refine' PySem.W.mg_none_of KX G ?q_83; (case q_83 => k_is))
      (case b_any => refine' PySem.W.mg_none_of KX G ?q_84; (case q_84 => k_is))
      (case b_enumerate => refine' PySem.W.mg_none_of KX G ?q_85; (case q_85 => k_is))
      (case b_len => refine' PySem.W.mg_none_of KX G ?q_86; (case q_86 => k_is))
      (case b_list => refine' PySem.W.mg_none_of KX G ?q_87; (case q_87 => k_is))
      (case b_max => refine' PySem.W.mg_none_of KX G ?q_88; (case q_88 => k_is))
      (case b_min => refine' PySem.W.mg_none_of KX G ?q_89; (case q_89 => k_is))
      (case b_ord => refine' PySem.W.mg_none_of KX G ?q_90; (case q_90 => k_is))
      (case b_range => refine' PySem.W.mg_none_of KX G ?q_91; (case q_91 => k_is))
      (case b_sorted => refine' PySem.W.mg_none_of KX G ?q_92; (case q_92 => k_is))
      (case b_str => refine' PySem.W.mg_none_of KX G ?q_93; (case q_93 => k_is))
      (case b_sum => refine' PySem.W.mg_none_of KX G ?q_94; (case q_94 => k_is))
      (case b_zip => refine' PySem.W.mg_none_of KX G ?q_95; (case q_95 => k_is))
      (case t_LABEL_HEATS => refine' Wash.f_tup ?q_96 ?z_96 ?v_96; (case q_96 => k_is); (case z_96 => decide); (case v_96 => exact (.cons ⟨_, rfl⟩ (.cons ⟨_, rfl⟩ (.cons ⟨_, rfl⟩ (.cons ⟨_, rfl⟩ (.cons ⟨_, rfl⟩ .nil)))))))
      (case t_PROGRAM_HEATS => refine' Wash.f_tup ?q_97 ?z_97 ?v_97; (case q_97 => k_is); (case z_97 => decide); (case v_97 => exact (.cons ⟨_, rfl⟩ (.cons ⟨_, rfl⟩ (.cons ⟨_, rfl⟩ (.cons ⟨_, rfl⟩ .nil))))))
      (case t_PLAIN_NUMBERS => refine' Wash.f_tup ?q_98 ?z_98 ?v_98; (case q_98 => k_is); (case z_98 => decide); (case v_98 => exact (.cons ⟨_, rfl⟩ (.cons ⟨_, rfl⟩ (.cons ⟨_, rfl⟩ (.cons ⟨_, rfl⟩ (.cons ⟨_, rfl⟩ (.cons ⟨_, rfl⟩ (.cons ⟨_, rfl⟩ (.cons ⟨_, rfl⟩ (.cons ⟨_, rfl⟩ (.cons ⟨_, rfl⟩ (.cons ⟨_, rfl⟩ (.cons ⟨_, rfl⟩ (.cons ⟨_, rfl⟩ (.cons ⟨_, rfl⟩ (.cons ⟨_, rfl⟩ (.cons ⟨_, rfl⟩ (.cons ⟨_, rfl⟩ (.cons ⟨_, rfl⟩ (.cons ⟨_, rfl⟩ (.cons ⟨_, rfl⟩ (.cons ⟨_, rfl⟩ (.cons ⟨_, rfl⟩ (.cons ⟨_, rfl⟩ (.cons ⟨_, rfl⟩ .nil))))))))))))))))))))))))))
      (case t_CALLS_WITH_ROW => refine' Wash.f_tup ?q_99 ?z_99 ?v_99; (case q_99 => k_is); (case z_99 => decide); (case v_99 => exact (.cons ⟨_, rfl⟩ (.cons ⟨_, rfl⟩ (.cons ⟨_, rfl⟩ .nil)))))
      (case k_WASHING_MINUTES => refine' Wash.f_tab (vs := [(30, _, .int 45 _), (40, _, .int 60 _), (60, _, .int 75 _), (95, _, .int 90 _)]) ?q_100 ?e_100 ?w_100 ?v_100 ?nd_100 ?b_100 ?s_100; (case q_100 => k_is); (case e_100 => exact rfl); (case w_100 => rfl); (case v_100 => exact (.cons ⟨_, rfl⟩ (.cons ⟨_, rfl⟩ (.cons ⟨_, rfl⟩ (.cons ⟨_, rfl⟩ .nil))))); (case nd_100 => decide); (case b_100 => decide); (case s_100 => decide))
      (case k_MACHINE_CALLS => refine' Wash.f_tab (vs := [(4, _, .ref 320), (5, _, .ref 332), (6, _, .ref 339), (7, _, .ref 346), (17, _, .ref 353), (18, _, .ref 360), (21, _, .ref 365)]) ?q_101 ?e_101 ?w_101 ?v_101 ?nd_101 ?b_101 ?s_101; (case q_101 => k_is); (case e_101 => exact rfl); (case w_101 => rfl); (case v_101 => exact (.cons rfl (.cons rfl (.cons rfl (.cons rfl (.cons rfl (.cons rfl (.cons rfl .nil)))))))); (case nd_101 => decide); (case b_101 => decide); (case s_101 => decide))
      (case k_ORDER_CALLS => refine' Wash.f_tab (vs := [(0, _, .ref 392), (1, _, .ref 399), (2, _, .ref 418), (3, _, .ref 425), (8, _, .ref 430), (9, _, .ref 437), (10, _, .ref 442), (11, _, .ref 449), (19, _, .ref 454), (20, _, .ref 466), (22, _, .ref 473), (23, _, .ref 480)]) ?q_102 ?e_102 ?w_102 ?v_102 ?nd_102 ?b_102 ?s_102; (case q_102 => k_is); (case e_102 => exact rfl); (case w_102 => rfl); (case v_102 => exact (.cons rfl (.cons rfl (.cons rfl (.cons rfl (.cons rfl (.cons rfl (.cons rfl (.cons rfl (.cons rfl (.cons rfl (.cons rfl (.cons rfl .nil))))))))))))); (case nd_102 => decide); (case b_102 => decide); (case s_102 => decide))
      (case k_THING_CALLS => refine' Wash.f_tab (vs := [(12, _, .ref 502), (13, _, .ref 509), (14, _, .ref 516), (15, _, .ref 528), (16, _, .ref 535)]) ?q_103 ?e_103 ?w_103 ?v_103 ?nd_103 ?b_103 ?s_103; (case q_103 => k_is); (case e_103 => exact rfl); (case w_103 => rfl); (case v_103 => exact (.cons rfl (.cons rfl (.cons rfl (.cons rfl (.cons rfl .nil)))))); (case nd_103 => decide); (case b_103 => decide); (case s_103 => decide))
      (case k_Label => refine' Wash.f_mk ?m_104 ?a_104 ?i_104 ?k_104 (Wash.f_def ?l_104 ?c_104 ?kk_104); (case m_104 => k_is); (case a_104 => k_is); (case i_104 => k_is); (case k_104 => k_is); (case l_104 => k_is); (case c_104 => k_is); (case kk_104 => k_is))
      (case m_Label => refine' PySem.W.mg_of KX G ?q_105; (case q_105 => k_is))
      (case d_digit_of => refine' Wash.f_def ?l_106 ?c_106 ?kk_106; (case l_106 => k_is); (case c_106 => k_is); (case kk_106 => k_is))
      (case m_digit_of => refine' PySem.W.mg_of KX G ?q_107; (case q_107 => k_is))
      (case d_signs_of => refine' Wash.f_def ?l_108 ?c_108 ?kk_108; (case l_108 => k_is); (case c_108 => k_is); (case kk_108 => k_is))
      (case m_signs_of => refine' PySem.W.mg_of KX G ?q_109; (case q_109 => k_is))
      (case d_is_allowed => refine' Wash.f_def ?l_110 ?c_110 ?kk_110; (case l_110 => k_is); (case c_110 => k_is); (case kk_110 => k_is))
      (case m_is_allowed => refine' PySem.W.mg_of KX G ?q_111; (case q_111 => k_is))
      (case d_read_label => refine' Wash.f_def ?l_112 ?c_112 ?kk_112; (case l_112 => k_is); (case c_112 => k_is); (case kk_112 => k_is))
      (case m_read_label => refine' PySem.W.mg_of KX G ?q_113; (case q_113 => k_is))
      (case k_Thing => refine' Wash.f_mk ?m_114 ?a_114 ?i_114 ?k_114 (Wash.f_def ?l_114 ?c_114 ?kk_114); (case m_114 => k_is); (case a_114 => k_is); (case i_114 => k_is); (case k_114 => k_is); (case l_114 => k_is); (case c_114 => k_is); (case kk_114 => k_is))
      (case m_Thing => refine' PySem.W.mg_of KX G ?q_115; (case q_115 => k_is))
      (case d_is_in_range => refine' Wash.f_def ?l_116 ?c_116 ?kk_116; (case l_116 => k_is); (case c_116 => k_is); (case kk_116 => k_is))
      (case m_is_in_range => refine' PySem.W.mg_of KX G ?q_117; (case q_117 => k_is))
      (case d_mildest_program => refine' Wash.f_def ?l_118 ?c_118 ?kk_118; (case l_118 => k_is); (case c_118 => k_is); (case kk_118 => k_is))
      (case m_mildest_program => refine' PySem.W.mg_of KX G ?q_119; (case q_119 => k_is))
      (case d_minutes_of => refine' Wash.f_def ?l_120 ?c_120 ?kk_120; (case l_120 => k_is); (case c_120 => k_is); (case kk_120 => k_is))
      (case m_minutes_of => refine' PySem.W.mg_of KX G ?q_121; (case q_121 => k_is))
      (case d_colours_agree => refine' Wash.f_def ?l_122 ?c_122 ?kk_122; (case l_122 => k_is); (case c_122 => k_is); (case kk_122 => k_is))
      (case m_colours_agree => refine' PySem.W.mg_of KX G ?q_123; (case q_123 => k_is))
      (case d_go_together => refine' Wash.f_def ?l_124 ?c_124 ?kk_124; (case l_124 => k_is); (case c_124 => k_is); (case kk_124 => k_is))
      (case m_go_together => refine' PySem.W.mg_of KX G ?q_125; (case q_125 => k_is))
      (case d_is_load => refine' Wash.f_def ?l_126 ?c_126 ?kk_126; (case l_126 => k_is); (case c_126 => k_is); (case kk_126 => k_is))
      (case m_is_load => refine' PySem.W.mg_of KX G ?q_127; (case q_127 => k_is))
      (case d_partners => refine' Wash.f_def ?l_128 ?c_128 ?kk_128; (case l_128 => k_is); (case c_128 => k_is); (case kk_128 => k_is))
      (case m_partners => refine' PySem.W.mg_of KX G ?q_129; (case q_129 => k_is))
      (case k_Sharing => refine' Wash.f_mk ?m_130 ?a_130 ?i_130 ?k_130 (Wash.f_def ?l_130 ?c_130 ?kk_130); (case m_130 => k_is); (case a_130 => k_is); (case i_130 => k_is); (case k_130 => k_is); (case l_130 => k_is); (case c_130 => k_is); (case kk_130 => k_is))
      (case m_Sharing => refine' PySem.W.mg_of KX G ?q_131; (case q_131 => k_is))
      (case d_takes => refine' Wash.f_meth ?a_132 ?i_132 ?k_132 (Wash.f_def ?l_132 ?c_132 ?kk_132); (case a_132 => k_is); (case i_132 => k_is); (case k_132 => k_is); (case l_132 => k_is); (case c_132 => k_is); (case kk_132 => k_is))
      (case d_finished => refine' Wash.f_meth ?a_133 ?i_133 ?k_133 (Wash.f_def ?l_133 ?c_133 ?kk_133); (case a_133 => k_is); (case i_133 => k_is); (case k_133 => k_is); (case l_133 => k_is); (case c_133 => k_is); (case kk_133 => k_is))
      (case d_first_way => refine' Wash.f_def ?l_134 ?c_134 ?kk_134; (case l_134 => k_is); (case c_134 => k_is); (case kk_134 => k_is))
      (case m_first_way => refine' PySem.W.mg_of KX G ?q_135; (case q_135 => k_is))
      (case k_Machine => refine' Wash.f_mk ?m_136 ?a_136 ?i_136 ?k_136 (Wash.f_def ?l_136 ?c_136 ?kk_136); (case m_136 => k_is); (case a_136 => k_is); (case i_136 => k_is); (case k_136 => k_is); (case l_136 => k_is); (case c_136 => k_is); (case kk_136 => k_is))
      (case m_Machine => refine' PySem.W.mg_of KX G ?q_137; (case q_137 => k_is))
      (case d_is_running => refine' Wash.f_meth ?a_138 ?i_138 ?k_138 (Wash.f_def ?l_138 ?c_138 ?kk_138); (case a_138 => k_is); (case i_138 => k_is); (case k_138 => k_is); (case l_138 => k_is); (case c_138 => k_is); (case kk_138 => k_is))
      (case k_Order => refine' Wash.f_mk ?m_139 ?a_139 ?i_139 ?k_139 (Wash.f_def ?l_139 ?c_139 ?kk_139); (case m_139 => k_is); (case a_139 => k_is); (case i_139 => k_is); (case k_139 => k_is); (case l_139 => k_is); (case c_139 => k_is); (case kk_139 => k_is))
      (case m_Order => refine' PySem.W.mg_of KX G ?q_140; (case q_140 => k_is))
      (case k_House => refine' Wash.f_mk ?m_141 ?a_141 ?i_141 ?k_141 (Wash.f_def ?l_141 ?c_141 ?kk_141); (case m_141 => k_is); (case a_141 => k_is); (case i_141 => k_is); (case k_141 => k_is); (case l_141 => k_is); (case c_141 => k_is); (case kk_141 => k_is))
      (case m_House => refine' PySem.W.mg_of KX G ?q_142; (case q_142 => k_is))
      (case d_begin => refine' Wash.f_meth ?a_143 ?i_143 ?k_143 (Wash.f_def ?l_143 ?c_143 ?kk_143); (case a_143 => k_is); (case i_143 => k_is); (case k_143 => k_is); (case l_143 => k_is); (case c_143 => k_is); (case kk_143 => k_is))
      (case d_things_of => refine' Wash.f_meth ?a_144 ?i_144 ?k_144 (Wash.f_def ?l_144 ?c_144 ?kk_144); (case a_144 => k_is); (case i_144 => k_is); (case k_144 => k_is); (case l_144 => k_is); (case c_144 => k_is); (case kk_144 => k_is))
      (case d_set_state => refine' Wash.f_meth ?a_145 ?i_145 ?k_145 (Wash.f_def ?l_145 ?c_145 ?kk_145); (case a_145 => k_is); (case i_145 => k_is); (case k_145 => k_is); (case l_145 => k_is); (case c_145 => k_is); (case kk_145 => k_is))
      (case d_waits => refine' Wash.f_meth ?a_146 ?i_146 ?k_146 (Wash.f_def ?l_146 ?c_146 ?kk_146); (case a_146 => k_is); (case i_146 => k_is); (case k_146 => k_is); (case l_146 => k_is); (case c_146 => k_is); (case kk_146 => k_is))
      (case d_place_of => refine' Wash.f_meth ?a_147 ?i_147 ?k_147 (Wash.f_def ?l_147 ?c_147 ?kk_147); (case a_147 => k_is); (case i_147 => k_is); (case k_147 => k_is); (case l_147 => k_is); (case c_147 => k_is); (case kk_147 => k_is))
      (case d_due_of => refine' Wash.f_meth ?a_148 ?i_148 ?k_148 (Wash.f_def ?l_148 ?c_148 ?kk_148); (case a_148 => k_is); (case i_148 => k_is); (case k_148 => k_is); (case l_148 => k_is); (case c_148 => k_is); (case kk_148 => k_is))
      (case d_waiting_things => refine' Wash.f_meth ?a_149 ?i_149 ?k_149 (Wash.f_def ?l_149 ?c_149 ?kk_149); (case a_149 => k_is); (case i_149 => k_is); (case k_149 => k_is); (case l_149 => k_is); (case c_149 => k_is); (case kk_149 => k_is))
      (case d_waiting_for => refine' Wash.f_meth ?a_150 ?i_150 ?k_150 (Wash.f_def ?l_150 ?c_150 ?kk_150); (case a_150 => k_is); (case i_150 => k_is); (case k_150 => k_is); (case l_150 => k_is); (case c_150 => k_is); (case kk_150 => k_is))
      (case d_plan_of => refine' Wash.f_meth ?a_151 ?i_151 ?k_151 (Wash.f_def ?l_151 ?c_151 ?kk_151); (case a_151 => k_is); (case i_151 => k_is); (case k_151 => k_is); (case l_151 => k_is); (case c_151 => k_is); (case kk_151 => k_is))
      (case d_fill => refine' Wash.f_meth ?a_152 ?i_152 ?k_152 (Wash.f_def ?l_152 ?c_152 ?kk_152); (case a_152 => k_is); (case i_152 => k_is); (case k_152 => k_is); (case l_152 => k_is); (case c_152 => k_is); (case kk_152 => k_is))
      (case d_take_out => refine' Wash.f_meth ?a_153 ?i_153 ?k_153 (Wash.f_def ?l_153 ?c_153 ?kk_153); (case a_153 => k_is); (case i_153 => k_is); (case k_153 => k_is); (case l_153 => k_is); (case c_153 => k_is); (case kk_153 => k_is))
      (case d_wash_what_is_over => refine' Wash.f_meth ?a_154 ?i_154 ?k_154 (Wash.f_def ?l_154 ?c_154 ?kk_154); (case a_154 => k_is); (case i_154 => k_is); (case k_154 => k_is); (case l_154 => k_is); (case c_154 => k_is); (case kk_154 => k_is))
      (case d_bill_of => refine' Wash.f_meth ?a_155 ?i_155 ?k_155 (Wash.f_def ?l_155 ?c_155 ?kk_155); (case a_155 => k_is); (case i_155 => k_is); (case k_155 => k_is); (case l_155 => k_is); (case c_155 => k_is); (case kk_155 => k_is))
      (case d_plan => refine' Wash.f_def ?l_156 ?c_156 ?kk_156; (case l_156 => k_is); (case c_156 => k_is); (case kk_156 => k_is))
      (case m_plan => refine' PySem.W.mg_of KX G ?q_157; (case q_157 => k_is))
      (case d_run_refusal => refine' Wash.f_def ?l_158 ?c_158 ?kk_158; (case l_158 => k_is); (case c_158 => k_is); (case kk_158 => k_is))
      (case m_run_refusal => refine' PySem.W.mg_of KX G ?q_159; (case q_159 => k_is))
      (case d_run => refine' Wash.f_def ?l_160 ?c_160 ?kk_160; (case l_160 => k_is); (case c_160 => k_is); (case kk_160 => k_is))
      (case m_run => refine' PySem.W.mg_of KX G ?q_161; (case q_161 => k_is))
      (case d_tick => refine' Wash.f_def ?l_162 ?c_162 ?kk_162; (case l_162 => k_is); (case c_162 => k_is); (case kk_162 => k_is))
      (case m_tick => refine' PySem.W.mg_of KX G ?q_163; (case q_163 => k_is))
      (case d_broken => refine' Wash.f_def ?l_164 ?c_164 ?kk_164; (case l_164 => k_is); (case c_164 => k_is); (case kk_164 => k_is))
      (case m_broken => refine' PySem.W.mg_of KX G ?q_165; (case q_165 => k_is))
      (case d_tell_machine => refine' Wash.f_def ?l_166 ?c_166 ?kk_166; (case l_166 => k_is); (case c_166 => k_is); (case kk_166 => k_is))
      (case m_tell_machine => refine' PySem.W.mg_of KX G ?q_167; (case q_167 => k_is))
      (case d_tell_inside => refine' Wash.f_def ?l_168 ?c_168 ?kk_168; (case l_168 => k_is); (case c_168 => k_is); (case kk_168 => k_is))
      (case m_tell_inside => refine' PySem.W.mg_of KX G ?q_169; (case q_169 => k_is))
      (case d_tell_next => refine' Wash.f_def ?l_170 ?c_170 ?kk_170; (case l_170 => k_is); (case c_170 => k_is); (case kk_170 => k_is))
      (case m_tell_next => refine' PySem.W.mg_of KX G ?q_171; (case q_171 => k_is))
      (case d_is_machine_call => refine' Wash.f_def ?l_172 ?c_172 ?kk_172; (case l_172 => k_is); (case c_172 => k_is); (case kk_172 => k_is))
      (case m_is_machine_call => refine' PySem.W.mg_of KX G ?q_173; (case q_173 => k_is))
      (case d_answer_machine_call => refine' Wash.f_def ?l_174 ?c_174 ?kk_174; (case l_174 => k_is); (case c_174 => k_is); (case kk_174 => k_is))
      (case m_answer_machine_call => refine' PySem.W.mg_of KX G ?q_175; (case q_175 => k_is))
      (case d_are_drums => refine' Wash.f_def ?l_176 ?c_176 ?kk_176; (case l_176 => k_is); (case c_176 => k_is); (case kk_176 => k_is))
      (case m_are_drums => refine' PySem.W.mg_of KX G ?q_177; (case q_177 => k_is))
      (case d_start => refine' Wash.f_def ?l_178 ?c_178 ?kk_178; (case l_178 => k_is); (case c_178 => k_is); (case kk_178 => k_is))
      (case m_start => refine' PySem.W.mg_of KX G ?q_179; (case q_179 => k_is))
      (case d_order => refine' Wash.f_def ?l_180 ?c_180 ?kk_180; (case l_180 => k_is); (case c_180 => k_is); (case kk_180 => k_is))
      (case m_order => refine' PySem.W.mg_of KX G ?q_181; (case q_181 => k_is))
      (case d_state_refusal => refine' Wash.f_def ?l_182 ?c_182 ?kk_182; (case l_182 => k_is); (case c_182 => k_is); (case kk_182 => k_is))
      (case m_state_refusal => refine' PySem.W.mg_of KX G ?q_183; (case q_183 => k_is))
      (case d_thing_refusal => refine' Wash.f_def ?l_184 ?c_184 ?kk_184; (case l_184 => k_is); (case c_184 => k_is); (case kk_184 => k_is))
      (case m_thing_refusal => refine' PySem.W.mg_of KX G ?q_185; (case q_185 => k_is))
      (case d_add => refine' Wash.f_def ?l_186 ?c_186 ?kk_186; (case l_186 => k_is); (case c_186 => k_is); (case kk_186 => k_is))
      (case m_add => refine' PySem.W.mg_of KX G ?q_187; (case q_187 => k_is))
      (case d_close => refine' Wash.f_def ?l_188 ?c_188 ?kk_188; (case l_188 => k_is); (case c_188 => k_is); (case kk_188 => k_is))
      (case m_close => refine' PySem.W.mg_of KX G ?q_189; (case q_189 => k_is))
      (case d_pack => refine' Wash.f_def ?l_190 ?c_190 ?kk_190; (case l_190 => k_is); (case c_190 => k_is); (case kk_190 => k_is))
      (case m_pack => refine' PySem.W.mg_of KX G ?q_191; (case q_191 => k_is))
      (case d_hand => refine' Wash.f_def ?l_192 ?c_192 ?kk_192; (case l_192 => k_is); (case c_192 => k_is); (case kk_192 => k_is))
      (case m_hand => refine' PySem.W.mg_of KX G ?q_193; (case q_193 => k_is))
      (case d_cancel => refine' Wash.f_def ?l_194 ?c_194 ?kk_194; (case l_194 => k_is); (case c_194 => k_is); (case kk_194 => k_is))
      (case m_cancel => refine' PySem.W.mg_of KX G ?q_195; (case q_195 => k_is))
      (case d_bill => refine' Wash.f_def ?l_196 ?c_196 ?kk_196; (case l_196 => k_is); (case c_196 => k_is); (case kk_196 => k_is))
      (case m_bill => refine' PySem.W.mg_of KX G ?q_197; (case q_197 => k_is))
      (case d_tell_state => refine' Wash.f_def ?l_198 ?c_198 ?kk_198; (case l_198 => k_is); (case c_198 => k_is); (case kk_198 => k_is))
      (case m_tell_state => refine' PySem.W.mg_of KX G ?q_199; (case q_199 => k_is))
      (case d_is_late => refine' Wash.f_def ?l_200 ?c_200 ?kk_200; (case l_200 => k_is); (case c_200 => k_is); (case kk_200 => k_is))
      (case m_is_late => refine' PySem.W.mg_of KX G ?q_201; (case q_201 => k_is))
      (case d_tell_late => refine' Wash.f_def ?l_202 ?c_202 ?kk_202; (case l_202 => k_is); (case c_202 => k_is); (case kk_202 => k_is))
      (case m_tell_late => refine' PySem.W.mg_of KX G ?q_203; (case q_203 => k_is))
      (case d_tell_till => refine' Wash.f_def ?l_204 ?c_204 ?kk_204; (case l_204 => k_is); (case c_204 => k_is); (case kk_204 => k_is))
      (case m_tell_till => refine' PySem.W.mg_of KX G ?q_205; (case q_205 => k_is))
      (case d_tell_all => refine' Wash.f_def ?l_206 ?c_206 ?kk_206; (case l_206 => k_is); (case c_206 => k_is); (case kk_206 => k_is))
      (case m_tell_all => refine' PySem.W.mg_of KX G ?q_207; (case q_207 => k_is))
      (case d_is_order_call => refine' Wash.f_def ?l_208 ?c_208 ?kk_208; (case l_208 => k_is); (case c_208 => k_is); (case kk_208 => k_is))
      (case m_is_order_call => refine' PySem.W.mg_of KX G ?q_209; (case q_209 => k_is))
      (case d_answer_order_call => refine' Wash.f_def ?l_210 ?c_210 ?kk_210; (case l_210 => k_is); (case c_210 => k_is); (case kk_210 => k_is))
      (case m_answer_order_call => refine' PySem.W.mg_of KX G ?q_211; (case q_211 => k_is))
      (case d_tell_where => refine' Wash.f_def ?l_212 ?c_212 ?kk_212; (case l_212 => k_is); (case c_212 => k_is); (case kk_212 => k_is))
      (case m_tell_where => refine' PySem.W.mg_of KX G ?q_213; (case q_213 => k_is))
      (case d_tell_label => refine' Wash.f_def ?l_214 ?c_214 ?kk_214; (case l_214 => k_is); (case c_214 => k_is); (case kk_214 => k_is))
      (case m_tell_label => refine' PySem.W.mg_of KX G ?q_215; (case q_215 => k_is))
      (case d_tell_thing => refine' Wash.f_def ?l_216 ?c_216 ?kk_216; (case l_216 => k_is); (case c_216 => k_is); (case kk_216 => k_is))
      (case m_tell_thing => refine' PySem.W.mg_of KX G ?q_217; (case q_217 => k_is))
      (case d_are_apart => refine' Wash.f_def ?l_218 ?c_218 ?kk_218; (case l_218 => k_is); (case c_218 => k_is); (case kk_218 => k_is))
      (case m_are_apart => refine' PySem.W.mg_of KX G ?q_219; (case q_219 => k_is))
      (case d_tell_apart => refine' Wash.f_def ?l_220 ?c_220 ?kk_220; (case l_220 => k_is); (case c_220 => k_is); (case kk_220 => k_is))
      (case m_tell_apart => refine' PySem.W.mg_of KX G ?q_221; (case q_221 => k_is))
      (case d_tell_waiting => refine' Wash.f_def ?l_222 ?c_222 ?kk_222; (case l_222 => k_is); (case c_222 => k_is); (case kk_222 => k_is))
      (case m_tell_waiting => refine' PySem.W.mg_of KX G ?q_223; (case q_223 => k_is))
      (case d_answer_thing_call => refine' Wash.f_def ?l_224 ?c_224 ?kk_224; (case l_224 => k_is); (case c_224 => k_is); (case kk_224 => k_is))
      (case m_answer_thing_call => refine' PySem.W.mg_of KX G ?q_225; (case q_225 => k_is))
      (case d_read_call => refine' Wash.f_def ?l_226 ?c_226 ?kk_226; (case l_226 => k_is); (case c_226 => k_is); (case kk_226 => k_is))
      (case m_read_call => refine' PySem.W.mg_of KX G ?q_227; (case q_227 => k_is))
      (case d_answer => refine' Wash.f_def ?l_228 ?c_228 ?kk_228; (case l_228 => k_is); (case c_228 => k_is); (case kk_228 => k_is))
      (case m_answer => refine' PySem.W.mg_of KX G ?q_229; (case q_229 => k_is))
      (case d_answers => refine' Wash.f_def ?l_230 ?c_230 ?kk_230; (case l_230 => k_is); (case c_230 => k_is); (case kk_230 => k_is))
      (case m_answers => refine' PySem.W.mg_of KX G ?q_231; (case q_231 => k_is))
  case zS =>
    intro K H0 xs a hO n0 hwi hask hx
    cases hx with
    | cons h1 h2 =>
      cases h2
      cases h1 with
      | lst hs ha =>
        have e := L2.ints_dw a.1 _ ha
        subst e
        exact Wash.want hO n0 hs hask (fun p H' hp => .lst (L2.SqL.of hp) (L2.dw_ints _)) _

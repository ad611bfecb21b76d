import PyProof.Rows.All
import Wide.All
import OpenK.AllK
import Wide.FinOn
import HandS.ForMost
import HandS.ForExc
import HandS.IsInst
import HandS.Wide
import HandS.TupLe
import HandS.TupAny
import HandS.Gcd
import HandS.Codes
import HandS.AnyAll
import HandS.GenList
import HandS.Walk
import HandS.EndTab
import HandS.Zip
import HandS.More
import HandS.TupMul
import HandS.Text
import PySem.Challenge.RW_trueatlas_k58_looks_and_styles
set_option Elab.async false
set_option linter.all false
set_option maxRecDepth 100000
set_option maxHeartbeats 4000000
namespace My
open PySem L2

/-! ## heaps: what stood stands; a table of a code object may have grown -/
/-- no table of a code object -/
def NT (o : HO) : Prop := ∀ ps, o ≠ .tbl ps
/-- what was o stands at b -/
def Std (H : Hp) (b : Addr) (o : HO) : Prop := H b = some o ∨ ∃ ps qs, o = .tbl ps ∧ H b = some (.tbl qs) ∧ (TriplesOk ps.toList → TriplesOk qs.toList)
theorem Std.nt {H : Hp} {b : Addr} {o : HO} (h : Std H b o) (n : NT o) : H b = some o := by
  rcases h with h | ⟨ps, _, e, _⟩
  · exact h
  · exact absurd e (n ps)
theorem Std.ne_none {H : Hp} {b : Addr} {o : HO} (h : Std H b o) : H b ≠ none := by
  rcases h with h | ⟨_, _, _, h, _⟩ <;> rw [h] <;> simp
theorem Std.over {H : Hp} {b p : Addr} {o u : HO} (h : Std H b o) (n : b ≠ p) : Std (upd H p u) b o := by
  unfold Std at h ⊢
  rw [upd_ne n]; exact h
theorem Std.next {H H' : Hp} {b : Addr} {o : HO} (h : Std H b o) (k : ∀ u, H b = some u → Std H' b u) : Std H' b o := by
  rcases h with h | ⟨ps, qs, e, h, t⟩
  · exact k o h
  · rcases k _ h with k | ⟨ps2, rs, e2, k, t2⟩
    · exact .inr ⟨ps, qs, e, k, t⟩
    · injection e2 with e2
      subst e2
      exact .inr ⟨ps, rs, e, k, fun z => t2 (t z)⟩
/-- all that was tracked stands -/
def Same (H H' : Hp) : Prop := ∀ b o, H b = some o → Std H' b o
theorem Same.refl (H : Hp) : Same H H := fun _ _ h => .inl h
theorem Same.trans {H H1 H2 : Hp} (a : Same H H1) (b : Same H1 H2) : Same H H2 := fun c o h => (a c o h).next (b c)
theorem Same.free {H H' : Hp} (e : Same H H') {l : Addr} (h : H' l = none) : H l = none := by
  cases q : H l with
  | none => rfl
  | some o => exact absurd h (e l o q).ne_none
theorem Same.get {H H' : Hp} {b : Addr} {o : HO} (e : Same H H') (h : H b = some o) (n : NT o := by intro _ z; cases z) : H' b = some o := (e b o h).nt n
theorem Same.seq {K : PySem.W.Frag} {H H' : Hp} {a : Addr} {xs : List V} (e : Same H H') (h : SqL K H a xs) : SqL K H' a xs := by
  rcases h with (h | ⟨o, h⟩) | h
  · exact .inl (.inl (e.get h))
  · exact .inl (.inr ⟨o, e.get h⟩)
  · exact .inr h
/-! ## the tables of the code objects -/
/-- the tables stand -/
def Tbs (ts : List Addr) (H : Hp) : Prop := ∀ P ∈ ts, GxR.TabG H P
theorem tabG_std {H H' : Hp} {P : Addr} (h : GxR.TabG H P) (k : ∀ u, H P = some u → Std H' P u) : GxR.TabG H' P := by
  obtain ⟨ps, e, t⟩ := h
  rcases k _ e with k | ⟨ps2, qs, e2, k, t2⟩
  · exact ⟨ps, k, t⟩
  · injection e2 with e2
    subst e2
    exact ⟨qs, k, t2 t⟩
theorem Tbs.same {ts : List Addr} {H H' : Hp} (h : Tbs ts H) (e : Same H H') : Tbs ts H' := fun P hP => tabG_std (h P hP) (e P)
theorem same_tab {P : Addr} {H H' : Hp} (g : GxR.TabG H P) (h : GxR.Tabbed P H H') : Same H H' := fun b o e => by
  by_cases q : b = P
  · subst q
    obtain ⟨ps, e1, t⟩ := g
    obtain ⟨qs, e2, t2⟩ := h.1
    rw [e1] at e
    cases e
    exact .inr ⟨ps, qs, rfl, e2, fun _ => t2⟩
  · exact .inl (by rw [h.2 b q]; exact e)

/-! ## small rules -/
theorem pe_gI {X : Cx} {x : Str} {i : Int} {pos : Pos} (hm : ∃ t, X.mg x = some (.int i t)) (hg : Gl X x := by rfl) (hd : (x == ("__debug__" : Str)) = false := by decide) (hcd : (x == ("__classdict__" : Str)) = false := by decide) : PE X (.Name x pos) (tC (.int i)) := by
  obtain ⟨t, e⟩ := hm
  exact pe_glob hg e ⟨t, rfl⟩ hd
theorem ifD {c A B : Prop} [Decidable c] (h1 : c → A) (h2 : ¬ c → B) : if decide c = true then A else B := by
  by_cases h : c
  · rw [if_pos (decide_eq_true h)]; exact h1 h
  · rw [if_neg (by rw [decide_eq_false h]; exact Bool.false_ne_true)]; exact h2 h
theorem ifND {c A B : Prop} [Decidable c] (h1 : ¬ c → A) (h2 : c → B) : if (!decide c) = true then A else B := by
  by_cases h : c
  · rw [if_neg (by rw [decide_eq_true h]; exact Bool.false_ne_true)]; exact h2 h
  · rw [if_pos (by rw [decide_eq_false h]; rfl)]; exact h1 h
theorem ifB {b : Bool} {A B : Prop} (h1 : b = true → A) (h2 : b = false → B) : if b = true then A else B := by
  cases b
  · exact iteF (h2 rfl)
  · exact iteT (h1 rfl)
theorem ifTr {b : Bool} {A B : Prop} (e : b = true) (h : A) : if b = true then A else B := by rw [if_pos e]; exact h
theorem ifFa {b : Bool} {A B : Prop} (e : b = false) (h : B) : if b = true then A else B := by rw [e]; exact iteF h

/-! ## heaps: all that stood stands, but for what is at s -/
def But (s : Addr) (H H' : Hp) : Prop := ∀ b o, b ≠ s → H b = some o → Std H' b o
theorem But.refl {s : Addr} {H : Hp} : But s H H := fun _ _ _ e => .inl e
theorem But.trans {s : Addr} {H H1 H2 : Hp} (a : But s H H1) (b : But s H1 H2) : But s H H2 := fun c o n e => (a c o n e).next fun u k => b c u n k
theorem But.new {s p : Addr} {H : Hp} {o : HO} (n : H p = none) : But s H (upd H p o) := fun b u _ e => .inl (by
  rw [upd_ne (ne_of_none e n)]; exact e)
theorem But.then_new {s p : Addr} {H H1 : Hp} {o : HO} (a : But s H H1) (n : H1 p = none) : But s H (upd H1 p o) := a.trans (But.new n)
theorem But.at {s : Addr} {H : Hp} {o : HO} : But s H (upd H s o) := fun b u n e => .inl (by rw [upd_ne n]; exact e)
theorem But.then_at {s : Addr} {H H1 : Hp} {o : HO} (a : But s H H1) : But s H (upd H1 s o) := a.trans But.at
theorem But.of_same {s : Addr} {H H' : Hp} (a : Same H H') : But s H H' := fun b o _ e => a b o e
theorem But.then_same {s : Addr} {H H1 H2 : Hp} (a : But s H H1) (b : Same H1 H2) : But s H H2 := a.trans (But.of_same b)
theorem But.get {s b : Addr} {H H' : Hp} {o : HO} (e : But s H H') (q : b ≠ s) (h : H b = some o) (n : NT o := by intro _ z; cases z) : H' b = some o := (e b o q h).nt n
theorem same_new {p : Addr} {H : Hp} {o : HO} (n : H p = none) : Same H (upd H p o) := fun b u e => .inl (by
  rw [upd_ne (ne_of_none e n)]; exact e)
theorem same_then {p : Addr} {H H1 : Hp} {o : HO} (a : Same H H1) (n : H1 p = none) : Same H (upd H1 p o) := a.trans (same_new n)
/-- behind a new object's change -/
theorem Same.put {p : Addr} {H H1 : Hp} {o : HO} (a : Same H H1) (n : H p = none) : Same H (upd H1 p o) := fun b u e => (a b u e).over (ne_of_none e n)
theorem But.put {s p : Addr} {H H1 : Hp} {o : HO} (a : But s H H1) (n : H p = none) : But s H (upd H1 p o) := fun b u q e => (a b u q e).over (ne_of_none e n)
/-- the tables stand, whatever becomes of a list -/
theorem Tbs.but {ts : List Addr} {s : Addr} {H H' : Hp} (h : Tbs ts H) (e : But s H H') (l : ∃ xs, H s = some (.lst xs)) : Tbs ts H' := fun P hP => by
  have g := h P hP
  refine tabG_std g fun u k => e P u ?_ k
  obtain ⟨ps, e1, _⟩ := g
  obtain ⟨xs, e2⟩ := l
  intro z
  rw [z, e2] at e1
  cases e1
theorem Tbs.over {ts : List Addr} {p : Addr} {H : Hp} {o : HO} (h : Tbs ts H) (n : H p = none) : Tbs ts (upd H p o) := h.same (same_new n)
theorem Tbs.put {ts : List Addr} {p : Addr} {H : Hp} {o : HO} (h : Tbs ts H) (l : ∃ xs, H p = some (.lst xs)) : Tbs ts (upd H p o) := h.but But.at l
/-- what stands at s is the stream's list: no tuple -/
def Lst (H : Hp) (s : Addr) : Prop := ∃ xs, H s = some (.lst xs)

/-! ## tuples -/
section
variable {K : PySem.W.Frag} {H H' : Hp} {a p s : Addr} {xs : List V} {o : HO}
theorem tHere : SqT K (upd H p (.tup xs)) p xs := SqT.of upd_same
theorem tSame (e : Same H H') (h : SqT K H a xs) : SqT K H' a xs := by
  rcases h with (h | ⟨o, h⟩) | h
  · exact .inl (.inl (e.get h))
  · exact .inl (.inr ⟨o, e.get h⟩)
  · exact .inr h
theorem tOver (n : H p = none) (h : SqT K H a xs) : SqT K (upd H p o) a xs := tSame (same_new n) h
theorem tAt (n : ∃ ys, H s = some (.lst ys)) (h : SqT K H a xs) : SqT K (upd H s o) a xs := by
  obtain ⟨ys, n⟩ := n
  rcases h with (h | ⟨o, h⟩) | h
  · exact .inl (.inl (by rw [upd_ne (ne_of h n (by intro z; cases z))]; exact h))
  · exact .inl (.inr ⟨o, by rw [upd_ne (ne_of h n (by intro z; cases z))]; exact h⟩)
  · exact .inr h
theorem tBut (e : But s H H') (n : Lst H s) (h : SqT K H a xs) : SqT K H' a xs := by
  obtain ⟨ys, n⟩ := n
  rcases h with (h | ⟨o, h⟩) | h
  · exact .inl (.inl (e.get (ne_of h n (by intro z; cases z)) h))
  · exact .inl (.inr ⟨o, e.get (ne_of h n (by intro z; cases z)) h⟩)
  · exact .inr h
theorem lHere : SqL K (upd H p (.lst xs)) p xs := SqL.of upd_same
theorem Tbs.strm {ts : List Addr} {s b : Addr} {H H' : Hp} (h : Tbs ts H) (e : But s H H') (l : Lst H s) : Tbs ts H' := h.but e l
theorem lOver (n : H p = none) (h : SqL K H a xs) : SqL K (upd H p o) a xs := Same.seq (same_new n) h
theorem rOver (n : H p = none) {u : HO} (h : H a = some u) : upd H p o a = some u := by rw [upd_ne (ne_of_none h n)]; exact h
end
end My

namespace My
open PySem L2
/-! ## kinds of values -/
inductive Ty (K : PySem.W.Frag) (H : Hp) : V → String → Prop where
  | non : Ty K H .non "NoneType"
  | bl (b : Bool) : Ty K H (.bl b) "bool"
  | int (i : Int) : Ty K H (.int i) "int"
  | str (x : Str) : Ty K H (.str x) "str"
  | tup {a : Addr} {xs : List V} (h : SqT K H a xs) : Ty K H (.ref a) "tuple"
  | lst {a : Addr} {xs : List V} (h : SqL K H a xs) : Ty K H (.ref a) "list"
theorem Ty.x {K : PySem.W.Frag} {H : Hp} {v : V} {n : String} (h : Ty K H v n) : TyX K H v (.type n) := by
  cases h with
  | non => exact .base .non
  | bl b => exact .base (.bl b)
  | int i => exact .base (.int i)
  | str x => exact .base (.str x)
  | tup h =>
    rcases h with (h | ⟨o, h⟩) | ⟨o, its, n, e, c, _⟩
    · exact .base (.tup h)
    · exact .fTuple h
    · exact .kTuple e c
  | lst h =>
    rcases h with (h | ⟨o, h⟩) | ⟨o, its, n, e, c, _⟩
    · exact .base (.lst h)
    · exact .base (.frz h)
    · exact .kList e c
/-- isinstance's answers among these -/
def isaB (a b : String) : Bool := (kitB a b).getD false
theorem isa {K : PySem.W.Frag} {a b : String} (h : (kitB a b).isSome = true) : PySem.W.kitOne K (.type a) (.type b) = some (isaB a b) := by
  refine kit_ty ?_
  unfold isaB
  cases e : kitB a b with
  | none => rw [e] at h; cases h
  | some r => rfl
def six : List String := ["NoneType", "bool", "int", "str", "tuple", "list"]
theorem isa_all : (six.all fun a => six.tail.all fun b => (kitB a b).isSome) = true := by decide +kernel
theorem isa_tab : (six.all fun a => six.tail.all fun b => isaB a b == (a == b || (a == "bool" && b == "int"))) = true := by decide +kernel
theorem Ty.six {K : PySem.W.Frag} {H : Hp} {v : V} {n : String} (h : Ty K H v n) : n ∈ six := by
  cases h <;> simp [My.six]
theorem isaN {K : PySem.W.Frag} {n b : String} (h : n ∈ My.six) (hb : b ∈ My.six.tail) : PySem.W.kitOne K (.type n) (.type b) = some (n == b || (n == "bool" && b == "int")) := by
  have h1 := List.all_eq_true.mp (List.all_eq_true.mp isa_all n h) b hb
  have h2 := List.all_eq_true.mp (List.all_eq_true.mp isa_tab n h) b hb
  rw [isa h1, eq_of_beq h2]
/-- whether a value is an int (True and False are none) -/
def isI : V → Bool
  | .int _ => true
  | _ => false
theorem small {n : Nat} (h : Nat.ble n 100 = true) : n ≤ sizeLine := Nat.le_trans (Nat.le_of_ble_eq_true h) (by decide)
/-! ## indexes -/
theorem at0 {α : Type} {a : α} {r : List α} : atI (a :: r) 0 = some a := atI_nat (j := 0) rfl
theorem at1 {α : Type} {a b : α} {r : List α} : atI (a :: b :: r) 1 = some b := atI_nat (j := 1) rfl
theorem at2 {α : Type} {a b c : α} {r : List α} : atI (a :: b :: c :: r) 2 = some c := atI_nat (j := 2) rfl
theorem at3 {α : Type} {a b c d : α} {r : List α} : atI (a :: b :: c :: d :: r) 3 = some d := atI_nat (j := 3) rfl
end My

namespace My
open PySem L2
/-! ## points -/
def coordB : V → Bool
  | .int i => decide (-1000 ≤ i) && decide (i ≤ 1000)
  | _ => false
def pointB : List V → Bool
  | [u, v] => coordB u && coordB v
  | _ => false
/-- small enough to be multiplied -/
def Sm (x : Int) : Prop := -1099511627776 ≤ x ∧ x ≤ 1099511627776
def turnI (ax ay bx dy cx cy : Int) : Int := (bx - ax) * (cy - ay) - (dy - ay) * (cx - ax)
/-- whether a point's numbers are those of the map -/
def On (x y : Int) : Prop := -1000 ≤ x ∧ x ≤ 1000 ∧ -1000 ≤ y ∧ y ≤ 1000
theorem On.b {x y : Int} (h : On x y) : pointB [.int x, .int y] = true := by
  obtain ⟨h1, h2, h3, h4⟩ := h
  simp [pointB, coordB, h1, h2, h3, h4]
theorem On.sx {x y : Int} (h : On x y) : Sm x := by unfold On at h; unfold Sm; omega
theorem On.sy {x y : Int} (h : On x y) : Sm y := by unfold On at h; unfold Sm; omega
/-! ## the stream of a law -/
/-- at s: a stream: a list of ints, the cell, its number -/
def Strm (H : Hp) (s b : Addr) : Prop := ∃ (ns : List Int) (c k : Int), H b = some (.lst (ns.map V.int)) ∧ H s = some (.lst [.ref b, .int c, .int k]) ∧ 0 ≤ c ∧ 0 ≤ k
theorem Strm.lst {H : Hp} {s b : Addr} (h : Strm H s b) : Lst H s := by
  obtain ⟨_, _, _, _, h, _⟩ := h
  exact ⟨_, h⟩
theorem tyL {K : PySem.W.Frag} {H : Hp} {p : Addr} {xs : List V} (h : H p = some (.lst xs)) : tyV K "list" (.ref p) H := .inl ⟨rfl, xs, SqL.of h⟩
theorem Strm.same {H H' : Hp} {s b : Addr} (h : Strm H s b) (e : Same H H') : Strm H' s b := by
  obtain ⟨ns, c, k, h1, h2, h3, h4⟩ := h
  exact ⟨ns, c, k, e.get h1 (by intro _ z; cases z), e.get h2, h3, h4⟩
theorem Strm.over {H : Hp} {s b p : Addr} {o : HO} (h : Strm H s b) (n : H p = none) : Strm (upd H p o) s b := h.same (same_new n)
/-- a list of the law's own grows -/
theorem Strm.at {H : Hp} {s b p : Addr} {o : HO} (h : Strm H s b) (n1 : p ≠ s) (n2 : p ≠ b) : Strm (upd H p o) s b := by
  obtain ⟨ns, c, k, h1, h2, h3, h4⟩ := h
  exact ⟨ns, c, k, by rw [upd_ne n2.symm]; exact h1, by rw [upd_ne n1.symm]; exact h2, h3, h4⟩
theorem Strm.new1 {H : Hp} {s b p : Addr} (h : Strm H s b) (n : H p = none) : p ≠ s := by
  obtain ⟨ns, c, k, h1, h2, h3, h4⟩ := h
  exact (ne_of_none h2 n).symm
theorem Strm.new2 {H : Hp} {s b p : Addr} (h : Strm H s b) (n : H p = none) : p ≠ b := by
  obtain ⟨ns, c, k, h1, h2, h3, h4⟩ := h
  exact (ne_of_none h1 n).symm
theorem ints_no_ref {ns : List Int} {b : Addr} {r : List V} : HO.lst (ns.map V.int) ≠ HO.lst (.ref b :: r) := by
  intro e
  cases ns with
  | nil => injection e with e; cases e
  | cons n ns => injection e with e; injection e with e _; cases e
/-- the two objects of a stream stand apart -/
theorem Strm.ne {H : Hp} {b s : Addr} {ns : List Int} {x : Addr} {r : List V} (h1 : H b = some (.lst (ns.map V.int))) (h2 : H s = some (.lst (.ref x :: r))) : b ≠ s := ne_of h1 h2 ints_no_ref
/-! ## digits -/
theorem fmod_lt {a m : Int} (hm : 0 < m) : a.fmod m < m := by
  rw [Int.fmod_eq_emod_of_nonneg _ (Int.le_of_lt hm)]; exact Int.emod_lt_of_pos _ hm
theorem fmod_ge {a m : Int} (hm : 0 < m) : 0 ≤ a.fmod m := by
  rw [Int.fmod_eq_emod_of_nonneg _ (Int.le_of_lt hm)]; exact Int.emod_nonneg _ (by omega)
theorem div_ge {a m : Int} (ha : 0 ≤ a) (hm : 0 < m) : 0 ≤ a / m := Int.ediv_nonneg ha (Int.le_of_lt hm)
end My

namespace My
open PySem L2
/-! ## two values with the same content, to a depth below n -/
inductive Dq (K : PySem.W.Frag) (H : Hp) : Nat → V → V → Prop where
  | non (n : Nat) : Dq K H (n + 1) .non .non
  | bl (n : Nat) (b : Bool) : Dq K H (n + 1) (.bl b) (.bl b)
  | int (n : Nat) (i : Int) : Dq K H (n + 1) (.int i) (.int i)
  | str (n : Nat) (x : Str) : Dq K H (n + 1) (.str x) (.str x)
  | lst {n : Nat} {a b : Addr} {xs ys : List V} (h1 : SqL K H a xs) (h2 : SqL K H b ys) (hl : xs.length = ys.length) (hz : ys.length ≤ 1000)
      (h : ∀ (i : Nat) u v, xs[i]? = some u → ys[i]? = some v → Dq K H n u v) : Dq K H (n + 1) (.ref a) (.ref b)
  | tup {n : Nat} {a b : Addr} {xs ys : List V} (h1 : SqT K H a xs) (h2 : SqT K H b ys) (hl : xs.length = ys.length) (hz : ys.length ≤ 1000)
      (h : ∀ (i : Nat) u v, xs[i]? = some u → ys[i]? = some v → Dq K H n u v) : Dq K H (n + 1) (.ref a) (.ref b)
theorem Dq.same {K : PySem.W.Frag} {H H' : Hp} (e : Same H H') {n : Nat} {x y : V} (h : Dq K H n x y) : Dq K H' n x y := by
  induction h with
  | non n => exact .non n
  | bl n b => exact .bl n b
  | int n i => exact .int n i
  | str n x => exact .str n x
  | lst h1 h2 hl hz _ ih => exact .lst (e.seq h1) (e.seq h2) hl hz ih
  | tup h1 h2 hl hz _ ih => exact .tup (tSame e h1) (tSame e h2) hl hz ih
theorem get_at {xs : List V} {i : Nat} (h : i < xs.length) : xs[i]? = some xs[i] := List.getElem?_eq_getElem h
theorem line1000 {n : Nat} (h : n ≤ 1000) : n < 2 ^ 62 := Nat.lt_of_le_of_lt h (by decide)
end My

namespace My
open PySem L2
section
variable {K : PySem.W.Frag} {H H' : Hp} {a p s : Addr} {xs : List V} {o : HO}
/-- a new list stands behind a draw -/
theorem rBut {b : Addr} (e : But s (upd H p o) H') (n : H p = none) (S : Strm H s b) (nt : NT o := by intro _ z; cases z) : H' p = some o := by
  obtain ⟨ns, c, k, h1, h2, _⟩ := S
  exact e.get (ne_of_none h2 n).symm upd_same nt
theorem tButS {b : Addr} (e : But s H H') (S : Strm H s b) (h : SqT K H a xs) : SqT K H' a xs := tBut e S.lst h
end
/-- one of the four -/
def Far (f : Int) : Prop := f = 2 ∨ f = 4 ∨ f = 9 ∨ f = 1000
theorem Far.le {f : Int} (h : Far f) : 2 ≤ f ∧ f ≤ 1000 := by unfold Far at h; omega
/-- a point within far -/
def In (f x y : Int) : Prop := -f ≤ x ∧ x ≤ f ∧ -f ≤ y ∧ y ≤ f
theorem In.on {f x y : Int} (h : In f x y) (hf : f ≤ 1000) : On x y := by unfold In at h; unfold On; omega
theorem atFour {α : Type} {a b c d : α} {i : Int} (h0 : 0 ≤ i) (h1 : i < 4) : ∃ v, atI [a, b, c, d] i = some v ∧ (v = a ∨ v = b ∨ v = c ∨ v = d) := by
  rcases (show i = 0 ∨ i = 1 ∨ i = 2 ∨ i = 3 by omega) with rfl | rfl | rfl | rfl
  · exact ⟨_, at0, .inl rfl⟩
  · exact ⟨_, at1, .inr (.inl rfl)⟩
  · exact ⟨_, at2, .inr (.inr (.inl rfl))⟩
  · exact ⟨_, at3, .inr (.inr (.inr rfl))⟩
theorem atThree {α : Type} {a b c : α} {i : Int} (h0 : 0 ≤ i) (h1 : i < 3) : ∃ v, atI [a, b, c] i = some v ∧ (v = a ∨ v = b ∨ v = c) := by
  rcases (show i = 0 ∨ i = 1 ∨ i = 2 by omega) with rfl | rfl | rfl
  · exact ⟨_, at0, .inl rfl⟩
  · exact ⟨_, at1, .inr (.inl rfl)⟩
  · exact ⟨_, at2, .inr (.inr rfl)⟩
theorem atTwo {α : Type} {a b : α} {i : Int} (h0 : 0 ≤ i) (h1 : i < 2) : ∃ v, atI [a, b] i = some v ∧ (v = a ∨ v = b) := by
  rcases (show i = 0 ∨ i = 1 by omega) with rfl | rfl
  · exact ⟨_, at0, .inl rfl⟩
  · exact ⟨_, at1, .inr rfl⟩
/-- an item of a list -/
theorem atAny {α : Type} {xs : List α} {i : Int} (h0 : 0 ≤ i) (h1 : i < xs.length) : ∃ v, atI xs i = some v ∧ v ∈ xs := by
  obtain ⟨j, rfl⟩ : ∃ j : Nat, i = j := ⟨i.toNat, by omega⟩
  have h : j < xs.length := by omega
  exact ⟨xs[j], atI_nat (List.getElem?_eq_getElem h), List.getElem_mem h⟩
/-! ## turns -/
theorem turn_cyc (ax ay bx dy cx cy : Int) : turnI bx dy cx cy ax ay = turnI ax ay bx dy cx cy := by unfold turnI; grind
theorem turn_swap (ax ay bx dy cx cy : Int) : turnI bx dy ax ay cx cy = 0 - turnI ax ay bx dy cx cy := by unfold turnI; grind
theorem turn_quarter (ax ay bx dy cx cy : Int) : turnI (0 - ay) ax (0 - dy) bx (0 - cy) cx = turnI ax ay bx dy cx cy := by unfold turnI; grind
theorem turn_mirror (ax ay bx dy cx cy : Int) : turnI (0 - ax) ay (0 - bx) dy (0 - cx) cy = 0 - turnI ax ay bx dy cx cy := by unfold turnI; grind
theorem turn_moved (ax ay bx dy cx cy d e : Int) : turnI (ax + d) (ay - e) (bx + d) (dy - e) (cx + d) (cy - e) = turnI ax ay bx dy cx cy := by unfold turnI; grind
theorem turn_four (ax ay bx dy cx cy ex ey : Int) : turnI ax ay bx dy cx cy + turnI ax ay cx cy ex ey = turnI ax ay bx dy ex ey + turnI bx dy cx cy ex ey := by unfold turnI; grind
end My
namespace My
open PySem L2
theorem two_ints {K : PySem.W.Frag} {H : Hp} {x y : Int} : ∀ v ∈ [V.int x, V.int y], ∃ m, Ty K H v m := by
  intro v hv
  rcases List.mem_cons.mp hv with rfl | hv
  · exact ⟨_, .int _⟩
  · rcases List.mem_cons.mp hv with rfl | hv
    · exact ⟨_, .int _⟩
    · cases hv
end My

namespace My
open PySem L2
/-! ## lists of points: each with where it stands -/
abbrev Zp := Addr × Int × Int
/-- what a list of points holds -/
abbrev refs (zs : List Zp) : List V := zs.map fun z => V.ref z.1
def Pts (K : PySem.W.Frag) (H : Hp) (zs : List Zp) : Prop := ∀ z ∈ zs, SqT K H z.1 [.int z.2.1, .int z.2.2]
section
variable {K : PySem.W.Frag} {H H' : Hp} {s b D p : Addr} {zs : List Zp} {z : Zp} {o : HO}
theorem Pts.nil : Pts K H [] := fun _ h => by cases h
theorem Pts.same (e : Same H H') (h : Pts K H zs) : Pts K H' zs := fun z hz => tSame e (h z hz)
theorem Pts.but (e : But s H H') (S : Strm H s b) (h : Pts K H zs) : Pts K H' zs := fun z hz => tButS e S (h z hz)
theorem Pts.over (n : H p = none) (h : Pts K H zs) : Pts K (upd H p o) zs := h.same (same_new n)
theorem Pts.at (n : ∃ ys, H D = some (.lst ys)) (h : Pts K H zs) : Pts K (upd H D o) zs := fun z hz => tAt n (h z hz)
theorem Pts.one (h : SqT K H z.1 [.int z.2.1, .int z.2.2]) : Pts K H [z] := fun y hy => by
  rw [List.mem_singleton] at hy; rw [hy]; exact h
theorem Pts.app {ys : List Zp} (h : Pts K H zs) (g : Pts K H ys) : Pts K H (zs ++ ys) := fun y hy =>
  (List.mem_append.mp hy).elim (h y) (g y)
theorem Pts.get (h : Pts K H zs) {i : Nat} (e : zs[i]? = some z) : SqT K H z.1 [.int z.2.1, .int z.2.2] := h z (List.mem_of_getElem? e)
end
theorem four_of {α : Type} {xs : List α} (h : xs.length = 4) : ∃ a b c d, xs = [a, b, c, d] := by
  match xs, h with
  | [a, b, c, d], _ => exact ⟨a, b, c, d, rfl⟩
theorem three_of {α : Type} {xs : List α} (h : xs.length = 3) : ∃ a b c, xs = [a, b, c] := by
  match xs, h with
  | [a, b, c], _ => exact ⟨a, b, c, rfl⟩
theorem line_of {n : Nat} (h : n ≤ 1000) : n < sizeLine := small1000 h
end My
namespace My
open PySem L2
def spLaw (K : PySem.W.Frag) : Sp := fun vs H Q _ => ∃ (a : Addr) (ns : List Int), vs = [.ref a] ∧ SqL K H a (ns.map V.int) ∧ ns.length ≤ 63 ∧ ∀ H', Q (.bl true) H'
theorem On.quarter {x y : Int} (h : On x y) : On (0 - y) x := by unfold On at *; omega
theorem On.mirror {x y : Int} (h : On x y) : On (0 - x) y := by unfold On at *; omega
end My

namespace My
open PySem L2
/-! ## greatest common divisors -/
theorem op_fdivV {X : Cx} : OpR X (binaryOp .FloorDiv) (rI (fun _ j => j ≠ 0 ∧ j.natAbs < 2 ^ 9000) fun i j => .int (i.fdiv j)) := opI fun i j _ _ _ _ _ hc q =>
  PyProof.Rows.floordiv_int hc.1 q (.inl (PyProof.noPylong_of_log2 (by
    by_cases z : j.natAbs = 0
    · rw [z]; decide
    · exact (Nat.log2_lt z).mpr hc.2)))
/-- the state of Euclid's loop behind i turns -/
structure GI (n d M i x y : Nat) : Prop where
  g : Nat.gcd x y = Nat.gcd n d
  hy : y * 2 ^ (i / 2) ≤ M
  hx : x * 2 ^ ((i - 1) / 2) ≤ M
  le : 1 ≤ i → y ≤ x
theorem GI.start {n d M : Nat} (h1 : n ≤ M) (h2 : d ≤ M) : GI n d M 0 n d := ⟨rfl, by simpa using h2, by simpa using h1, fun h => absurd h (by decide)⟩
theorem mod_half {x y : Nat} (h0 : 0 < y) (h : y ≤ x) : 2 * (x % y) ≤ x := by
  have h1 := Nat.mod_lt x h0
  have h2 := Nat.div_add_mod x y
  have h3 : 1 ≤ x / y := (Nat.le_div_iff_mul_le h0).mpr (by omega)
  have h4 : y * 1 ≤ y * (x / y) := Nat.mul_le_mul_left y h3
  omega
theorem GI.step {n d M i x y : Nat} (h : GI n d M i x y) (h0 : 0 < y) : GI n d M (i + 1) y (x % y) := by
  have hm := Nat.mod_lt x h0
  refine ⟨?_, ?_, ?_, fun _ => Nat.le_of_lt hm⟩
  · rw [← h.g, Nat.gcd_comm x y, Nat.gcd_rec y x, Nat.gcd_comm]
  · by_cases hi : 1 ≤ i
    · have e : (i + 1) / 2 = (i - 1) / 2 + 1 := by omega
      rw [e, Nat.pow_succ]
      have h2 := mod_half h0 (h.le hi)
      have h3 : 2 * (x % y) * 2 ^ ((i - 1) / 2) ≤ x * 2 ^ ((i - 1) / 2) := Nat.mul_le_mul_right _ h2
      have h4 := h.hx
      have e2 : x % y * (2 ^ ((i - 1) / 2) * 2) = 2 * (x % y) * 2 ^ ((i - 1) / 2) := by
        rw [Nat.mul_comm (2 ^ ((i - 1) / 2)) 2, ← Nat.mul_assoc, Nat.mul_comm (x % y) 2]
      omega
    · have e : i = 0 := by omega
      subst e
      have h4 : y * 2 ^ (0 / 2) ≤ M := h.hy
      have h5 : y * 2 ^ (0 / 2) = y := Nat.mul_one y
      show x % y * 2 ^ ((0 + 1) / 2) ≤ M
      have e2 : x % y * 2 ^ ((0 + 1) / 2) = x % y := Nat.mul_one _
      omega
  · have e : (i + 1 - 1) / 2 = i / 2 := by omega
    rw [e]
    exact h.hy
theorem GI.done {n d x y k : Nat} (h : GI n d (2 ^ k) 40000 x y) (hk : k < 20000) : y = 0 := by
  rcases Nat.eq_zero_or_pos y with z | z
  · exact z
  · have h1 : y * 2 ^ 20000 ≤ 2 ^ k := h.hy
    have h2 : 1 * 2 ^ 20000 ≤ y * 2 ^ 20000 := Nat.mul_le_mul_right _ z
    have h3 : 2 ^ k < 2 ^ 20000 := Nat.pow_lt_pow_right (by decide) hk
    rw [Nat.one_mul] at h2
    exact absurd (Nat.le_trans h2 h1) (Nat.not_le.mpr h3)
theorem abs_nat (i : Int) : (if i < 0 then -i else i) = (i.natAbs : Int) := by split <;> omega
theorem fmod_nat (x y : Nat) : ((x : Int).fmod (y : Int)) = ((x % y : Nat) : Int) := by
  rw [Int.fmod_eq_emod_of_nonneg _ (Int.natCast_nonneg y), Int.natCast_emod]
/-- the divisor with the sign of d -/
def sgcd (n d : Int) : Int := if d < 0 then 0 - (Nat.gcd n.natAbs d.natAbs : Int) else (Nat.gcd n.natAbs d.natAbs : Int)
def lowN (n d : Int) : Int := n.fdiv (sgcd n d)
def lowD (n d : Int) : Int := d.fdiv (sgcd n d)
theorem gcd_pos {n d : Int} (h : d ≠ 0) : 0 < Nat.gcd n.natAbs d.natAbs := Nat.gcd_pos_of_pos_right _ (by omega)
theorem sgcd_ne {n d : Int} (h : d ≠ 0) : sgcd n d ≠ 0 := by
  have := gcd_pos (n := n) h
  unfold sgcd
  split <;> omega
theorem sgcd_le {n d : Int} (h : d ≠ 0) : (sgcd n d).natAbs ≤ d.natAbs := by
  have h1 : Nat.gcd n.natAbs d.natAbs ≤ d.natAbs := Nat.le_of_dvd (by omega) (Nat.gcd_dvd_right _ _)
  unfold sgcd
  split <;> omega
/-- what the lowest terms are -/
structure LowOk (n d N D : Int) : Prop where
  mul : ∃ g : Int, g ≠ 0 ∧ n = g * N ∧ d = g * D
  pos : 0 < D
  one : Nat.gcd N.natAbs D.natAbs = 1
theorem fdiv_mul {g x : Int} (h : g ≠ 0) : (g * x).fdiv g = x := by
  rw [Int.fdiv_eq_ediv_of_dvd (Int.dvd_mul_right g x), Int.mul_ediv_cancel_left _ h]
theorem low_ok {n d : Int} (h : d ≠ 0) : LowOk n d (lowN n d) (lowD n d) := by
  have hg := gcd_pos (n := n) h
  have hs := sgcd_ne (n := n) h
  obtain ⟨a, ha⟩ := Nat.gcd_dvd_left n.natAbs d.natAbs
  obtain ⟨b, hb⟩ := Nat.gcd_dvd_right n.natAbs d.natAbs
  have co : Nat.gcd a b = 1 := by
    have e : Nat.gcd (Nat.gcd n.natAbs d.natAbs * a) (Nat.gcd n.natAbs d.natAbs * b) = Nat.gcd n.natAbs d.natAbs * Nat.gcd a b := Nat.gcd_mul_left _ _ _
    rw [← ha, ← hb] at e
    have e' : Nat.gcd n.natAbs d.natAbs * 1 = Nat.gcd n.natAbs d.natAbs * Nat.gcd a b := by rw [Nat.mul_one]; exact e
    exact (Nat.eq_of_mul_eq_mul_left hg e').symm
  -- both as multiples of the divisor
  have dn : sgcd n d ∣ n := by
    have : ((Nat.gcd n.natAbs d.natAbs : Nat) : Int) ∣ n := Int.ofNat_dvd_left.mpr (Nat.gcd_dvd_left _ _)
    unfold sgcd
    split
    · rw [Int.zero_sub]; exact Int.neg_dvd.mpr this
    · exact this
  have dd : sgcd n d ∣ d := by
    have : ((Nat.gcd n.natAbs d.natAbs : Nat) : Int) ∣ d := Int.ofNat_dvd_left.mpr (Nat.gcd_dvd_right _ _)
    unfold sgcd
    split
    · rw [Int.zero_sub]; exact Int.neg_dvd.mpr this
    · exact this
  obtain ⟨N, hN⟩ := dn
  obtain ⟨D, hD⟩ := dd
  have eN : lowN n d = N := by
    unfold lowN
    rw [show n.fdiv (sgcd n d) = (sgcd n d * N).fdiv (sgcd n d) from congrArg (fun z => Int.fdiv z (sgcd n d)) hN]
    exact fdiv_mul hs
  have eD : lowD n d = D := by
    unfold lowD
    rw [show d.fdiv (sgcd n d) = (sgcd n d * D).fdiv (sgcd n d) from congrArg (fun z => Int.fdiv z (sgcd n d)) hD]
    exact fdiv_mul hs
  have sa : (sgcd n d).natAbs = Nat.gcd n.natAbs d.natAbs := by unfold sgcd; split <;> omega
  have aN : N.natAbs = a := by
    have e := congrArg Int.natAbs hN
    rw [Int.natAbs_mul, sa] at e
    exact Nat.eq_of_mul_eq_mul_left hg (e.symm.trans ha)
  have aD : D.natAbs = b := by
    have e := congrArg Int.natAbs hD
    rw [Int.natAbs_mul, sa] at e
    exact Nat.eq_of_mul_eq_mul_left hg (e.symm.trans hb)
  rw [eN, eD]
  refine ⟨⟨_, hs, hN, hD⟩, ?_, by rw [aN, aD]; exact co⟩
  -- the sign
  have sg : (d < 0 → sgcd n d < 0) ∧ (0 ≤ d → 0 < sgcd n d) := by unfold sgcd; split <;> omega
  by_cases hd : d < 0
  · have s1 := sg.1 hd
    by_cases hp : 0 < D
    · exact hp
    · exfalso
      have : 0 ≤ sgcd n d * D := Int.mul_nonneg_of_nonpos_of_nonpos (by omega) (by omega)
      omega
  · have s1 := sg.2 (by omega)
    by_cases hp : 0 < D
    · exact hp
    · exfalso
      have : sgcd n d * D ≤ 0 := Int.mul_nonpos_of_nonneg_of_nonpos (by omega) (by omega)
      omega
theorem LowOk.leN {n d N D : Int} (h : LowOk n d N D) : N.natAbs ≤ n.natAbs := by
  obtain ⟨⟨g, hg, h1, _⟩, _, _⟩ := h
  rw [h1, Int.natAbs_mul]
  exact Nat.le_mul_of_pos_left _ (by omega)
theorem LowOk.leD {n d N D : Int} (h : LowOk n d N D) : D.natAbs ≤ d.natAbs := by
  obtain ⟨⟨g, hg, _, h1⟩, _, _⟩ := h
  rw [h1, Int.natAbs_mul]
  exact Nat.le_mul_of_pos_left _ (by omega)
/-! ## fractions as values -/
def fracB : List V → Bool
  | [.int n, .int d] => decide (1 ≤ d) && (Nat.gcd n.natAbs d.natAbs == 1)
  | _ => false
/-- x is a value of which is_fraction is b -/
def FV (K : PySem.W.Frag) (H : Hp) (x : V) (b : Bool) : Prop := ∃ n, Ty K H x n ∧ (n = "tuple" → ∃ a xs, x = .ref a ∧ SqT K H a xs ∧ (∀ v ∈ xs, ∃ m, Ty K H v m) ∧ b = fracB xs) ∧ (n ≠ "tuple" → b = false)
theorem Ty.same {K : PySem.W.Frag} {H H' : Hp} (e : Same H H') {v : V} {n : String} (h : Ty K H v n) : Ty K H' v n := by
  cases h with
  | non => exact .non
  | bl b => exact .bl b
  | int i => exact .int i
  | str x => exact .str x
  | tup h => exact .tup (tSame e h)
  | lst h => exact .lst (e.seq h)
theorem FV.same {K : PySem.W.Frag} {H H' : Hp} (e : Same H H') {x : V} {b : Bool} (h : FV K H x b) : FV K H' x b := by
  obtain ⟨n, t, h1, h2⟩ := h
  refine ⟨n, t.same e, fun q => ?_, h2⟩
  obtain ⟨a, xs, e1, e2, e3, e4⟩ := h1 q
  exact ⟨a, xs, e1, tSame e e2, fun v hv => by obtain ⟨m, hm⟩ := e3 v hv; exact ⟨m, hm.same e⟩, e4⟩
theorem FV.tup {K : PySem.W.Frag} {H : Hp} {a : Addr} {xs : List V} (h : SqT K H a xs) (hm : ∀ v ∈ xs, ∃ m, Ty K H v m) : FV K H (.ref a) (fracB xs) :=
  ⟨"tuple", .tup h, fun _ => ⟨a, xs, rfl, h, hm, rfl⟩, fun q => absurd rfl q⟩
theorem FV.ok {K : PySem.W.Frag} {H : Hp} {a : Addr} {n d : Int} (h : SqT K H a [.int n, .int d]) (h1 : 0 < d) (h2 : Nat.gcd n.natAbs d.natAbs = 1) : FV K H (.ref a) true := by
  have e : fracB [.int n, .int d] = true := by
    show (decide (1 ≤ d) && (Nat.gcd n.natAbs d.natAbs == 1)) = true
    rw [h2, decide_eq_true (show 1 ≤ d by omega)]
    rfl
  rw [← e]
  exact FV.tup h two_ints
theorem FV.no {K : PySem.W.Frag} {H : Hp} {v : V} {n : String} (h : Ty K H v n) (hn : n ≠ "tuple") : FV K H v false := ⟨n, h, fun q => absurd q hn, fun _ => rfl⟩
end My
namespace My
open PySem L2
/-- an error of the class at C with this name is raised -/
def Rz (C : Addr) (x : V) (H : Hp) (E : XK) : Prop := ∀ d, H d = none → E (.ref C) (some d) (upd H d (.xd [(("name" : Str), x)]))
theorem pow200 {i : Int} (h : i.natAbs ≤ 2 ^ 200) : i.natAbs < 2 ^ 9000 := Nat.lt_of_le_of_lt h (Nat.pow_lt_pow_right (by decide) (by decide))
end My
namespace My
theorem near_two {n d st : Int} (d0 : 0 < d) (h1 : st * d ≤ n) (h2 : n < (st + 1) * d) : (2 * n + d) / (2 * d) = if 2 * (st + 1) * d ≤ 2 * n + d then st + 1 else st := by
  have e1 : 2 * (st + 1) * d = (st + 1) * (2 * d) := by grind
  have e2 : (st + 2) * (2 * d) = 2 * ((st + 1) * d) + 2 * d := by grind
  have e3 : st * (2 * d) = 2 * (st * d) := by grind
  have e4 : (st + 1) * (2 * d) = 2 * ((st + 1) * d) := by grind
  have p : 0 < 2 * d := by omega
  by_cases q : 2 * (st + 1) * d ≤ 2 * n + d
  · rw [if_pos q]
    have a1 := (Int.le_ediv_iff_mul_le p).mpr (show (st + 1) * (2 * d) ≤ 2 * n + d by omega)
    have a2 := (Int.ediv_lt_iff_lt_mul p).mpr (show 2 * n + d < (st + 2) * (2 * d) by omega)
    omega
  · rw [if_neg q]
    have a1 := (Int.le_ediv_iff_mul_le p).mpr (show st * (2 * d) ≤ 2 * n + d by omega)
    have a2 := (Int.ediv_lt_iff_lt_mul p).mpr (show 2 * n + d < (st + 1) * (2 * d) by omega)
    omega
end My
namespace My
open PySem L2
theorem fracB_ne {xs : List V} (h : xs.length ≠ 2) : fracB xs = false := by
  unfold fracB
  split
  · exact absurd rfl h
  · rfl
end My

namespace My
open PySem L2
/-! ## fractions at an address -/
structure FrAt (K : PySem.W.Frag) (H : Hp) (a : Addr) (n d : Int) : Prop where
  at_ : SqT K H a [.int n, .int d]
  pos : 0 < d
  one : Nat.gcd n.natAbs d.natAbs = 1
  bn : n.natAbs ≤ 2 ^ 67
  bd : d.natAbs ≤ 2 ^ 50
section
variable {K : PySem.W.Frag} {H H' : Hp} {s b p a c D : Addr} {n d m e : Int} {o : HO}
theorem FrAt.same (e : Same H H') (h : FrAt K H a n d) : FrAt K H' a n d := { h with at_ := tSame e h.at_ }
theorem FrAt.but (e : But s H H') (S : Strm H s b) (h : FrAt K H a n d) : FrAt K H' a n d := { h with at_ := tButS e S h.at_ }
theorem FrAt.over (q : H p = none) (h : FrAt K H a n d) : FrAt K (upd H p o) a n d := h.same (same_new q)
theorem FrAt.put (q : ∃ ys, H D = some (.lst ys)) (h : FrAt K H a n d) : FrAt K (upd H D o) a n d := { h with at_ := tAt q h.at_ }
theorem FrAt.fv (h : FrAt K H a n d) : FV K H (.ref a) true := FV.ok h.at_ h.pos h.one
theorem wide {i j : Int} {x y : Nat} (hi : i.natAbs ≤ 2 ^ x) (hj : j.natAbs ≤ 2 ^ y) (h : x + y + 2 ≤ 1000000 := by decide) : CMulW i j :=
  wide_mul (a := x + 1) (b := y + 1) (Nat.lt_of_le_of_lt hi (Nat.pow_lt_pow_right (by decide) (by omega))) (Nat.lt_of_le_of_lt hj (Nat.pow_lt_pow_right (by decide) (by omega))) (by omega) (by omega) (by omega)
theorem mul_le {i j : Int} {x y : Nat} (hi : i.natAbs ≤ 2 ^ x) (hj : j.natAbs ≤ 2 ^ y) : (i * j).natAbs ≤ 2 ^ (x + y) := by
  rw [Int.natAbs_mul, Nat.pow_add]; exact Nat.mul_le_mul hi hj
theorem pow_up {i : Int} {x y : Nat} (h : i.natAbs ≤ 2 ^ x) (hy : x ≤ y := by decide) : i.natAbs ≤ 2 ^ y := Nat.le_trans h (Nat.pow_le_pow_right (by decide) hy)
theorem add_le {i j : Int} {x : Nat} (hi : i.natAbs ≤ 2 ^ x) (hj : j.natAbs ≤ 2 ^ x) : (i + j).natAbs ≤ 2 ^ (x + 1) := by
  have := Int.natAbs_add_le i j
  rw [Nat.pow_succ]; omega
theorem sub_le {i j : Int} {x : Nat} (hi : i.natAbs ≤ 2 ^ x) (hj : j.natAbs ≤ 2 ^ x) : (i - j).natAbs ≤ 2 ^ (x + 1) := by
  have := Int.natAbs_sub_le i j
  rw [Nat.pow_succ]; omega
theorem mul_ne {i j : Int} (hi : 0 < i) (hj : 0 < j) : i * j ≠ 0 := by
  have := Int.mul_pos hi hj; omega
theorem mul_ne' {i j : Int} (hi : 0 < i) (hj : j ≠ 0) : i * j ≠ 0 := Int.mul_ne_zero (by omega) hj
end
/-! ## what a try of the law tells -/
abbrev Rs := (Int × Int) ⊕ Str ⊕ Bool
def TV (K : PySem.W.Frag) (H : Hp) (v : V) : Rs → Prop
  | .inl (a, b) => ∃ p, v = .ref p ∧ SqT K H p [.int a, .int b]
  | .inr (.inl s) => ∃ p, v = .ref p ∧ SqL K H p [.str "refused", .str s]
  | .inr (.inr b) => v = .bl b
theorem TV.same {K : PySem.W.Frag} {H H' : Hp} (e : Same H H') {v : V} {r : Rs} (h : TV K H v r) : TV K H' v r := by
  match r, h with
  | .inl (a, b), ⟨p, e1, h⟩ => exact ⟨p, e1, tSame e h⟩
  | .inr (.inl s), ⟨p, e1, h⟩ => exact ⟨p, e1, e.seq h⟩
  | .inr (.inr b), h => exact h
theorem lAt {K : PySem.W.Frag} {H : Hp} {a D : Addr} {xs : List V} {o : HO} (n : a ≠ D) (h : SqL K H a xs) : SqL K (upd H D o) a xs := by
  rcases h with (h | ⟨o, h⟩) | h
  · exact .inl (.inl (by rw [upd_ne n]; exact h))
  · exact .inl (.inr ⟨o, by rw [upd_ne n]; exact h⟩)
  · exact .inr h
theorem TV.put {K : PySem.W.Frag} {H : Hp} {D : Addr} {o : HO} (q : ∃ ys, H D = some (.lst ys)) {v : V} {r : Rs} (n : v ≠ .ref D) (h : TV K H v r) : TV K (upd H D o) v r := by
  match r, h with
  | .inl (a, b), ⟨p, e1, h⟩ => exact ⟨p, e1, tAt q h⟩
  | .inr (.inl s), ⟨p, e1, h⟩ => exact ⟨p, e1, lAt (fun z => n (by rw [e1, z])) h⟩
  | .inr (.inr b), h => exact h
theorem two_get {α : Type} {P : α → α → Prop} {a b c d : α} (h0 : P a c) (h1 : P b d) : ∀ (i : Nat) u v, [a, b][i]? = some u → [c, d][i]? = some v → P u v := by
  intro i u v hu hv
  rcases (show i = 0 ∨ i = 1 by have := (List.getElem?_eq_some_iff.mp hu).1; simp at this; omega) with rfl | rfl
  · cases hu; cases hv; exact h0
  · cases hu; cases hv; exact h1
theorem TV.dq {K : PySem.W.Frag} {H : Hp} {u v : V} {r : Rs} (h : TV K H u r) (g : TV K H v r) : Dq K H 3 u v := by
  match r, h, g with
  | .inl (a, b), ⟨p, e1, h⟩, ⟨q, e2, g⟩ => rw [e1, e2]; exact .tup h g rfl (Nat.le_of_ble_eq_true rfl) (two_get (.int 1 _) (.int 1 _))
  | .inr (.inl s), ⟨p, e1, h⟩, ⟨q, e2, g⟩ => rw [e1, e2]; exact .lst h g rfl (Nat.le_of_ble_eq_true rfl) (two_get (.str 1 _) (.str 1 _))
  | .inr (.inr b), h, g =>
    have h : u = .bl b := h
    have g : v = .bl b := g
    rw [h, g]; exact .bl 2 b
/-- what the five give -/
def res (i : Int) (n d m e : Int) : Rs :=
  if i = 0 then .inl (lowN (n * e + m * d) (d * e), lowD (n * e + m * d) (d * e))
  else if i = 1 then .inl (lowN (n * e - m * d) (d * e), lowD (n * e - m * d) (d * e))
  else if i = 2 then .inl (lowN (n * m) (d * e), lowD (n * m) (d * e))
  else if i = 3 then (if m = 0 then .inr (.inl "second") else .inl (lowN (n * e) (d * m), lowD (n * e) (d * m)))
  else .inr (.inr (decide (n * e < m * d)))
end My
namespace My
open PySem L2
/-- a divisor: an int other than 0 -/
def okD : V → Bool
  | .int i => decide (i ≠ 0)
  | _ => false
theorem log_lt {i : Int} (h : i.natAbs ≤ 2 ^ 73) : i.natAbs.log2 < 1920 := by
  by_cases z : i.natAbs = 0
  · rw [z]; decide
  · exact (Nat.log2_lt z).mpr (Nat.lt_of_le_of_lt h (Nat.pow_lt_pow_right (by decide) (by decide)))
end My
namespace PySem
namespace Gx
open PySem.W PySem.Calls PyProof.Rows
section
variable {prog : Program} {w : World} {A : Around} {R : Result → Shared → Prop} {I : Addr}
/-- all's loop: m bounds the turns that are left -/
theorem all_loop (W : Nat → Shared → Prop) (step : ∀ m s, W m s → wpAny (model prog w) A.in1 (pyNext (.ref I)) (fun r s' => match r with
    | none => R (.ok (.ret (.bool true))) s'
    | some v => ∃ b, v = .bool b ∧ if b = true then ∃ m', m' < m ∧ W m' s' else R (.ok (.ret (.bool false))) s') (fun e s' => R (.error e) s') s) :
    ∀ (m : Nat) (s : Shared), W m s → codeAny (model prog w) A (.builtin "all.loop" ⟨[.ref I], []⟩) R s := by
  intro m
  induction m using Nat.strongRecOn with
  | ind m ih =>
    intro s hW
    refine codeAny_builtin F.entry_all_loop ?_
    rw [Around.under_plainId F.plain_all_loop _]
    show wpAny _ A.in1 (pyNext (.ref I) >>= _) _ _ s
    refine wpAny_bind (wpAny_mono (step m s hW) (fun r s' h => ?_) fun _ _ e => e)
    cases r with
    | none => exact wpAny_bind (wpAny_rule (wpAny_pure h))
    | some v =>
      obtain ⟨b, rfl, h⟩ := h
      refine wpAny_bind (wpAny_holding (wpAny_truthy_bool ?_))
      refine wpAny_bind (wpAny_letGo ?_)
      cases b with
      | true =>
        simp only [if_true] at h ⊢
        obtain ⟨m', hm, hW'⟩ := h
        exact wpAny_pure ⟨plainId_quiet F.plain_all_loop _, ih m' hm s' hW'⟩
      | false =>
        simp only [Bool.false_eq_true, if_false] at h ⊢
        exact wpAny_bind (wpAny_rule (wpAny_pure h))
theorem any_loop (W : Nat → Shared → Prop) (step : ∀ m s, W m s → wpAny (model prog w) A.in1 (pyNext (.ref I)) (fun r s' => match r with
    | none => R (.ok (.ret (.bool false))) s'
    | some v => ∃ b, v = .bool b ∧ if b = true then R (.ok (.ret (.bool true))) s' else ∃ m', m' < m ∧ W m' s') (fun e s' => R (.error e) s') s) :
    ∀ (m : Nat) (s : Shared), W m s → codeAny (model prog w) A (.builtin "any.loop" ⟨[.ref I], []⟩) R s := by
  intro m
  induction m using Nat.strongRecOn with
  | ind m ih =>
    intro s hW
    refine codeAny_builtin F.entry_any_loop ?_
    rw [Around.under_plainId F.plain_any_loop _]
    show wpAny _ A.in1 (pyNext (.ref I) >>= _) _ _ s
    refine wpAny_bind (wpAny_mono (step m s hW) (fun r s' h => ?_) fun _ _ e => e)
    cases r with
    | none => exact wpAny_bind (wpAny_rule (wpAny_pure h))
    | some v =>
      obtain ⟨b, rfl, h⟩ := h
      refine wpAny_bind (wpAny_holding (wpAny_truthy_bool ?_))
      refine wpAny_bind (wpAny_letGo ?_)
      cases b with
      | true =>
        simp only [if_true] at h ⊢
        exact wpAny_bind (wpAny_rule (wpAny_pure h))
      | false =>
        simp only [Bool.false_eq_true, if_false] at h ⊢
        obtain ⟨m', hm, hW'⟩ := h
        exact wpAny_pure ⟨plainId_quiet F.plain_any_loop _, ih m' hm s' hW'⟩
end
/-! ### the generator's side -/
/-- while the generator sleeps: the heap stands, the table of generators stays bare -/
structure Sl (s s' : Shared) : Prop where
  os : s'.os = s.os
  bare : AllBare s'.gens
  heap : s'.heap = s.heap
/-- a value is handed out: C of it; then on, if it is one that lets the consumer go on -/
def Yx (C : Value → Shared → Prop) (Go : Value → Prop) : Protocol := fun _ _ v s kap => C v s ∧ (Go v → ∀ s', Sl s s' → kap (.send .none) s')
def Rx (Dn : Shared → Prop) : GenEnd := fun _ _ r s => r = .ok .next ∧ Dn s
section
variable {prog : Program} {w : World} {A : Around}
theorem seg_loop {elt tg iter : Expr} {ifs : List Expr} {scope : Scope} {pos : Pos} {I : Addr} {cenv : Env} {C : Value → Shared → Prop} {Go : Value → Prop} {Dn : Shared → Prop} {B : Around}
    (hB : A.over (.compLoop (.GeneratorExp elt [⟨tg, iter, ifs, 0⟩] scope pos) 0 (.ref I) .none cenv) [] = B) (hco : cenv.scope.isCoroutine = false) (W : Nat → Shared → Prop)
    (turn : ∀ m s, W m s → wpAny (model prog w) B (pyNext (.ref I)) (fun r s1 => match r with
      | none => Dn s1
      | some v => wpAny (model prog w) B (letOwnedTupleGo tg (.ref I) v) (fun _ s1' => wpAny (model prog w) B (assign tg cenv v) (fun _ s2 => wpAny (model prog w) B (forIn ifs true fun c r => if r = true then do let ok ← isTrue c cenv (eval c cenv); pure (ForInStep.yield ok) else pure (ForInStep.yield r)) (fun ok s3 =>
          if ok = true then wpAny (model prog w) B (eval elt cenv) (fun y s4 => C y s4 ∧ (Go y → ∃ m', m' < m ∧ ∀ s', Sl s4 s' → W m' s')) (fun _ _ => False) s3 else ∃ m', m' < m ∧ W m' s3) (fun _ _ => False) s2) (fun _ _ => False) s1') (fun _ _ => False) s1) (fun _ _ => False) s) :
    ∀ (m n : Nat) (s₀ s : Shared), m < n → W m s → Seg (model prog w) A (Rx Dn) (Yx C Go) n s₀
      (.compLoop (.GeneratorExp elt [⟨tg, iter, ifs, 0⟩] scope pos) 0 (.ref I) .none cenv)
      ((model prog w).den (.compLoop (.GeneratorExp elt [⟨tg, iter, ifs, 0⟩] scope pos) 0 (.ref I) .none cenv)) [] s := by
  subst hB
  intro m
  induction m using Nat.strongRecOn with
  | ind m ih =>
    intro n s₀ s hn hW
    show Seg _ A _ _ _ s₀ _ ((compTurn (.GeneratorExp elt [⟨tg, iter, ifs, 0⟩] scope pos) 0 (.ref I) .none cenv).onRaise (leaving cenv)) [] s
    rw [compTurn_gen, Sem.onRaise_eq_wrap]
    refine seg_bind_wrap (wpAny_standAt ?_)
    refine seg_bind_wrap (wpAny_mono (turn m s hW) (fun r s1 h => ?_) fun _ _ e => e.elim)
    cases r with
    | none => exact seg_end (.ok .next) ⟨rfl, h⟩
    | some v =>
      refine seg_bind_wrap (wpAny_mono h (fun _ s1' h => ?_) fun _ _ e => e.elim)
      refine seg_bind_wrap (wpAny_mono h (fun _ s2 h => ?_) fun _ _ e => e.elim)
      refine seg_bind_wrap (wpAny_mono h (fun ok s3 h => ?_) fun _ _ e => e.elim)
      cases ok with
      | false =>
        simp only [Bool.false_eq_true, if_false] at h ⊢
        obtain ⟨m', hm, hW'⟩ := h
        exact seg_again rfl (ih m' hm n s₀ s3 (by omega) hW')
      | true =>
        simp only [if_true] at h ⊢
        have hy : ∀ v, yieldOut cenv v = yieldValue v := fun v => by simp only [yieldOut, hco, Bool.false_eq_true, if_false]
        simp only [hy]
        rw [Sem.bind_eq_wrap', Sem.bind_eq_wrap', Sem.wrap_wrap, Sem.wrap_wrap]
        refine seg_wrap (wpAny_mono h (fun y s4 h => ?_) fun _ _ e => e.elim)
        obtain ⟨hC, hgo⟩ := h
        obtain ⟨n', rfl⟩ : ∃ n', n = n' + 1 := ⟨n - 1, by omega⟩
        refine seg_at (seg_yield rfl rfl rfl ⟨hC, fun gy s'' hs => ?_⟩)
        obtain ⟨m', hm, hW'⟩ := hgo gy
        exact seg_again rfl (ih m' hm n' s'' s'' (by omega) (hW' s'' hs))
/-- from its beginning -/
theorem seg_start {elt tg iter : Expr} {ifs : List Expr} {scope : Scope} {pos : Pos} {I : Addr} {cenv : Env} {C : Value → Shared → Prop} {Go : Value → Prop} {Dn : Shared → Prop} {n : Nat} {s₀ s : Shared}
    (self : ∀ (B : Around) (Q : Value → Shared → Prop) (E : Value → Shared → Prop), Q (.ref I) s → wpAny (model prog w) B (pyIter (.ref I)) Q E s)
    (loop : Seg (model prog w) A (Rx Dn) (Yx C Go) n s₀ (.compLoop (.GeneratorExp elt [⟨tg, iter, ifs, 0⟩] scope pos) 0 (.ref I) .none cenv)
      ((model prog w).den (.compLoop (.GeneratorExp elt [⟨tg, iter, ifs, 0⟩] scope pos) 0 (.ref I) .none cenv)) [] s) :
    Seg (model prog w) A (Rx Dn) (Yx C Go) n s₀ (.compStart (.GeneratorExp elt [⟨tg, iter, ifs, 0⟩] scope pos) 0 (.ref I) .none cenv)
      ((model prog w).den (.compStart (.GeneratorExp elt [⟨tg, iter, ifs, 0⟩] scope pos) 0 (.ref I) .none cenv)) [] s := by
  show Seg _ A _ _ _ s₀ _ ((compStart (.GeneratorExp elt [⟨tg, iter, ifs, 0⟩] scope pos) 0 (.ref I) .none cenv).onRaise (leaving cenv)) [] s
  unfold compStart
  rw [Sem.onRaise_eq_wrap]
  show Seg _ A _ _ _ s₀ _ ((ask >>= _).wrap _ _ _ _) [] s
  refine seg_bind_wrap (wpAny_askSetting ?_)
  split
  · exact seg_again rfl loop
  · refine seg_bind_wrap (wpAny_rule ?_)
    show Seg _ A _ _ _ s₀ _ ((standAt iter.pos >>= _).wrap _ _ _ _) [] s
    exact seg_bind_wrap (wpAny_standAt (seg_bind_wrap (self _ _ _ (seg_again rfl loop))))
end
end Gx
end PySem
/-! ### the two together: all(g), any(g), g a generator expression not yet begun -/
namespace PySem
namespace Gx
open PySem.W PySem.Calls PyProof.Rows L2 GenW
/-- the heap is extended; the table of generators stays bare -/
structure Ex (s s' : Shared) : Prop where
  os : s'.os = s.os
  bare : AllBare s'.gens
  heap : ∀ b o, s.heap.get? b = some o → s'.heap.get? b = some o
/-- the end of the generator -/
def Rg (Dn : Shared → Prop) : GenEnd := fun _ _ r s₁ => ((r = .ok (.ret .none) ∨ r = .ok .next) ∧ Dn s₁) ∨ ∃ e, r = .error e ∧ False
theorem seg_rg {M : Model} {A : Around} {C : Value → Shared → Prop} {Go : Value → Prop} {Dn : Shared → Prop} {n : Nat} {s₀ : Shared} {c : Code} {t : Sem PySem.Fin} {fs : List Frame} {s : Shared} (h : Seg M A (Rx Dn) (Yx C Go) n s₀ c t fs s) : Seg M A (Rg Dn) (Yx C Go) n s₀ c t fs s :=
  seg_imp (fun _ _ r s h => .inl ⟨.inr h.1, h.2⟩) (fun _ _ v s kap kap' hk h => ⟨h.1, fun gv s' hs => hk _ _ (h.2 gv s' hs)⟩) n h
section
variable {prog : Program} {w : World} {A : Around} {E : Value → Shared → Prop} {a : Addr} {g : Nat}
/-- a value that is handed out: its generator stands; what then is, if the consumer stops at it -/
def Cx (a : Addr) (g : Nat) (stop : Bool) (Q : Shared → Prop) (v : Value) (s : Shared) : Prop :=
  ∃ b, v = .bool b ∧ s.heap.IsGen a g ∧ s.heap.NoLimit ∧ AllBare s.gens ∧ (b = stop → ∀ s', Sl s s' → Q s')
def Dx (Q : Shared → Prop) (s : Shared) : Prop := AllBare s.gens ∧ ∀ s', Ex s s' → Q s'
/-- the generator sleeps, m items at most are left -/
def Wx (prog : Program) (w : World) (A : Around) (a : Addr) (g : Nat) (stop : Bool) (C : Value → Shared → Prop) (Dn : Shared → Prop) (m : Nat) (s : Shared) : Prop :=
  s.heap.IsGen a g ∧ s.heap.NoLimit ∧ AllBare s.gens ∧ ∃ gs, s.gens[g]? = some gs ∧ gs.Goes (model prog w) A (Rg Dn) (Yx C fun v => v = .bool (!stop)) m (.send .none) (s.setGen g .running)
theorem next_x {stop : Bool} {Q1 Q2 : Shared → Prop} {R : Option Value → Shared → Prop} {m : Nat} {s : Shared} (hh : A.handled = none) (hd : A.depth < recursionLimit)
    (hW : Wx prog w A.in1 a g stop (Cx a g stop Q1) (Dx Q2) m s)
    (hnone : ∀ s', Q2 s' → R none s')
    (hstop : ∀ s', Q1 s' → R (some (.bool stop)) s')
    (hgo : ∀ s' m', m' < m → Wx prog w A.in1 a g stop (Cx a g stop Q1) (Dx Q2) m' s' → R (some (.bool (!stop))) s') :
    wpAny (model prog w) A (pyNext (.ref a)) R E s := by
  obtain ⟨hg, hl, hb, gs, hgs, hgoes⟩ := hW
  have hgl : g < s.gens.size := (Array.getElem?_eq_some_iff.mp hgs).1
  refine wpAny_gsz (n := g + 1) hgl (next_genG (F := fun _ _ s₁ => Dx Q2 s₁) (Er := fun _ _ => False) hh hl hd hg hgs hgoes (fun v s₁ gs' hbare hv => ?_) (fun s₁ hp h' hk => ?_) fun e s₁ he => he.elim)
  · intro hsz
    obtain ⟨⟨b, rfl, hg1, hl1, hb1, hs1⟩, hk⟩ := hv
    have hsz1 : g < s₁.gens.size := by
      have q : (s₁.setGen g gs').gens.size = s₁.gens.size := setGen_size _ _ _
      have hsz' : g + 1 ≤ (s₁.setGen g gs').gens.size := hsz
      omega
    by_cases e : b = stop
    · subst e
      exact hstop _ (hs1 rfl _ ⟨rfl, allBare_setGen hb1 hbare, rfl⟩)
    · have e2 : b = !stop := by cases b <;> cases stop <;> first | rfl | exact absurd rfl e
      subst e2
      cases m with
      | zero => exact (hk rfl s₁ ⟨rfl, hb1, rfl⟩).elim
      | succ k => exact hgo _ k (Nat.lt_succ_self k) ⟨hg1, hl1, allBare_setGen hb1 hbare, gs', setGen_at hsz1, hk rfl _ ⟨rfl, allBare_setGen (s := s₁.setGen g gs') (allBare_setGen hb1 hbare) rfl, rfl⟩⟩
  · intro hsz
    exact hnone _ (hp.2 _ ⟨rfl, allBare_setGen hp.1 rfl, hk⟩)
theorem call_all_gen {Q : Value → Shared → Prop} {m : Nat} {s : Shared} (hh : A.handled = none) (hd : A.depth + 1 < recursionLimit)
    (hW : Wx prog w A.in1.in1 a g false (Cx a g false fun s' => Q (.bool false) s') (Dx fun s' => Q (.bool true) s') m s) :
    wpAny (model prog w) A (call (.builtin "all") [.ref a]) Q E s := by
  refine call_function_tree F.kind_all F.plain_all F.entry_all (F.args_all1 _) ?_
  unfold Builtin.«all»
  refine wpAny_bind (m := oneArg "all" _) (wpAny_pure ?_)
  refine wpAny_bind (wpAny_pyIter_gen hW.1 ?_)
  refine wpAny_pure ⟨plainId_quiet F.plain_all_loop _, ?_⟩
  refine all_loop (A := A) (fun m s => Wx prog w A.in1.in1 a g false (Cx a g false fun s' => Q (.bool false) s') (Dx fun s' => Q (.bool true) s') m s) (fun m s h => ?_) m s hW
  exact next_x (A := A.in1) hh (by show A.depth < _; omega) h (fun s' q => q) (fun s' q => ⟨false, rfl, q⟩) fun s' m' hm h' => ⟨true, rfl, m', hm, h'⟩
theorem call_any_gen {Q : Value → Shared → Prop} {m : Nat} {s : Shared} (hh : A.handled = none) (hd : A.depth + 1 < recursionLimit)
    (hW : Wx prog w A.in1.in1 a g true (Cx a g true fun s' => Q (.bool true) s') (Dx fun s' => Q (.bool false) s') m s) :
    wpAny (model prog w) A (call (.builtin "any") [.ref a]) Q E s := by
  refine call_function_tree F.kind_any F.plain_any F.entry_any (F.args_any1 _) ?_
  unfold Builtin.«any»
  refine wpAny_bind (m := oneArg "any" _) (wpAny_pure ?_)
  refine wpAny_bind (wpAny_pyIter_gen hW.1 ?_)
  refine wpAny_pure ⟨plainId_quiet F.plain_any_loop _, ?_⟩
  refine any_loop (A := A) (fun m s => Wx prog w A.in1.in1 a g true (Cx a g true fun s' => Q (.bool true) s') (Dx fun s' => Q (.bool false) s') m s) (fun m s h => ?_) m s hW
  exact next_x (A := A.in1) hh (by show A.depth < _; omega) h (fun s' q => q) (fun s' q => ⟨true, rfl, q⟩) fun s' m' hm h' => ⟨false, rfl, m', hm, h'⟩
end
end Gx
end PySem
/-! ### a generator expression is made -/
namespace PySem
namespace Gx
open PySem.W PySem.Calls PyProof.Rows L2 GenW
section
variable {X : L2.Cx} {pins : List (Addr × Obj)} {σ : L2.St} {H : Hp} {s : Shared}
theorem gen_make {c P : Addr} {elt tg iter : Expr} {ifs : List Expr} {x : Str} {gpos : Pos} {scope : Scope} {wi : TI} {k : Nat} {Q' : Value → Shared → Prop} {R : It → Hp → Prop}
    (hr : Room k X.A) (TB : GxR.TabB X.base X.mg c P) (hcode : X.env.code = .ref c) (S : GxR.GenS X.env scope x) (hi : PI X tg iter wi) (hs : ∀ v, genFold iter X.env v = pure v)
    (I : Inv X pins σ H s) (h : wi σ H fun J H1 => GxR.TabG H1 P ∧ R J H1)
    (hQ : ∀ (it : Addr) (fp : List Addr) (tn : Nat → Heap → Prop) (J : It) (H1 H2 : Hp) (code : Value) (C a : Addr) (g : Nat) (s4 s5 : Shared), R J H1 → GxR.Tabbed P H1 H2 → Inv X pins σ H2 s4 → s4.heap.objs.size = C → (∀ b o, s4.heap.get? b = some o → s5.heap.get? b = some o) → s5.os = s4.os → tn 0 s4.heap → Inv X pins σ H2 s5 → Turn X.prog X.w X.K tg J fp it tn → tn 0 s5.heap → (∀ b ∈ fp, FpOk X pins H2 b) →
      s5.heap.Ns C (fun y => if y = ".0" then some (.ref it) else none) → FpOk X pins H2 C → C ∉ fp → s5.heap.IsGen a g → FpOk X pins H2 a → a ∉ fp → a ≠ C →
      s5.gens[g]? = some (.fresh (.compStart (.GeneratorExp elt [⟨tg, iter, ifs, 0⟩] scope gpos) 0 (.ref it) .none (genEnv scope (cloFrom X.env.cells scope.names []) C code builtinsNs X.env))) → Q' (.ref a) s5) :
    wpAny (model X.prog X.w) X.A (eval (.GeneratorExp elt [⟨tg, iter, ifs, 0⟩] scope gpos) X.env) Q' X.xe s := by
  refine wpAny_GeneratorExp_make S.co (closure_ok S.free) S.cell S.dot S.kind (by have := hr.dp; omega) ?_ hs
  refine thn (hi.run pins s σ H _ I h) fun xv s1 h1 => thn h1 fun itv s2 h2 => ?_
  obtain ⟨it, fp, tn, J, H1, rfl, I2, T, st2, f2, ⟨ps, hP, ht⟩, q⟩ := h2
  have hPs : s2.heap.get? P = some { cls := .none, data := .fields ps } := I2.hok P _ hP
  have hPlt : P < s2.heap.objs.size := Heap.lt_size hPs
  have cd : PySem.W.CodeHd s2.heap c P := TB.code.keeps fun b u e => I2.bk b u e
  have cont : ∀ (code : Value) (h3 : Heap) (tk : Nat) (ps' : Array Value), Heap.ExtBut P s2.heap h3 → s2.heap.objs.size ≤ h3.objs.size → h3.get? P = some { cls := .none, data := .fields ps' } → (∃ more, ps' = ps ++ more) → TriplesOk ps'.toList →
      wpAny (model X.prog X.w) X.A (builtinsFor X.env.globals X.env.builtins) (fun bi s₄ =>
        ∀ h', h'.Ns s₄.heap.objs.size (fun y => if y = ".0" then some (.ref it) else none) → Heap.SameBut s₄.heap.objs.size (s₄.heap.push { cls := .type "frame", data := .dict #[] }) h' →
          Q' (.ref h'.objs.size) { s₄ with
            gens := s₄.gens.push (.fresh (.compStart (.GeneratorExp elt [⟨tg, iter, ifs, 0⟩] scope gpos) 0 (.ref it) .none (genEnv scope (cloFrom X.env.cells scope.names []) s₄.heap.objs.size code bi X.env))),
            toks := s₄.toks + 1 + 1 + 1,
            heap := h'.push { cls := .type "generator", data := .fields #[.int s₄.gens.size 0, .str "<genexpr>" (s₄.toks + 1), .str (X.env.qual ++ "<genexpr>") (s₄.toks + 1 + 1)] } }) X.xe { s2 with heap := h3, toks := tk } := by
    intro code h3 tk ps' hx hsz hP3 hmore ht3
    obtain ⟨bm, ob, e1, e2, e3, e4, e5, e6, e7, e8⟩ := TB.bm
    refine wpAny_builtinsFor (m := X.mg) (by rw [I2.ok.glob]; exact (I2.mod.glob.keeps I2.bk).extBut hx TB.gP) e1 e2 (hx _ _ e4 (I2.bk _ _ e5)) e6 e7 e8 ?_
    intro h' hn' hs'
    have hsz' : h'.objs.size = h3.objs.size + 1 := by rw [hs'.1, Heap.size_push]
    have keep' : ∀ b o, h3.get? b = some o → h'.get? b = some o := fun b o e => hs'.extBut b o (Nat.ne_of_lt (Heap.lt_size e)) (Heap.get?_push_of_some _ e)
    have keep5 : ∀ b o, b ≠ P → s2.heap.get? b = some o → (h'.push { cls := .type "generator", data := .fields #[.int s2.gens.size 0, .str "<genexpr>" (tk + 1), .str (X.env.qual ++ "<genexpr>") (tk + 1 + 1)] }).get? b = some o :=
      fun b o hb e => Heap.get?_push_of_some _ (keep' b o (hx b o hb e))
    obtain ⟨more, em⟩ := hmore
    have nfP : ∀ b ∈ fp, b ≠ P := fun b hb e => by
      have := (f2 b hb).1
      rw [e, hP] at this
      cases this
    have fok : ∀ b, FpOk X pins H1 b → FpOk X pins (upd H1 P (.tbl (ps ++ more))) b := fun b hb => by
      have nb : b ≠ P := fun e => by
        have := hb.1
        rw [e, hP] at this
        cases this
      exact ⟨by rw [upd_ne nb]; exact hb.1, hb.2⟩
    have hCf : (h3.objs.size : Nat) ∉ fp := fun hb => by
      obtain ⟨o, ho, _⟩ := T.obj _ _ st2 _ hb
      exact absurd (Nat.lt_of_lt_of_le (Heap.lt_size ho) hsz) (Nat.lt_irrefl _)
    have hge : s2.heap.objs.size ≤ h'.objs.size := by rw [hsz']; exact Nat.le_succ_of_le hsz
    have haf : (h'.objs.size : Nat) ∉ fp := fun hb => by
      obtain ⟨o, ho, _⟩ := T.obj _ _ st2 _ hb
      exact absurd (Nat.lt_of_lt_of_le (Heap.lt_size ho) hge) (Nat.lt_irrefl _)
    have J5 := GxR.inv_tab (more := more) (h' := h'.push { cls := .type "generator", data := .fields #[.int s2.gens.size 0, .str "<genexpr>" (tk + 1), .str (X.env.qual ++ "<genexpr>") (tk + 1 + 1)] })
      (g' := s2.gens.push (.fresh (.compStart (.GeneratorExp elt [⟨tg, iter, ifs, 0⟩] scope gpos) 0 (.ref it) .none (genEnv scope (cloFrom X.env.cells scope.names []) h3.objs.size code builtinsNs X.env)))) (d' := s2.drawn) (t' := tk + 1 + 1 + 1)
      I2 hP keep5 (by rw [← em]; exact Heap.get?_push_of_some _ (keep' P _ hP3)) (I2.bare.push rfl)
    have J4 := GxR.inv_tab (more := more) (h' := h3) (g' := s2.gens) (d' := s2.drawn) (t' := tk) I2 hP (fun b o hb e => hx b o hb e) (by rw [← em]; exact hP3) I2.bare
    refine hQ it fp tn J H1 (upd H1 P (.tbl (ps ++ more))) code h3.objs.size h'.objs.size s2.gens.size _ _ q ⟨⟨ps ++ more, upd_same, by rw [← em]; exact ht3⟩, fun b hb => upd_ne hb⟩ J4 rfl (fun b o e => Heap.get?_push_of_some _ (keep' b o e)) rfl (T.keep _ _ _ st2 fun b hb o e => hx b o (nfP b hb) e) J5 T
      (T.keep _ _ _ st2 fun b hb o e => keep5 b o (nfP b hb) e) (fun b hb => fok b (f2 b hb)) (hn'.push _) (fok _ (I2.fpOk hsz (I2.hok.fresh hsz))) hCf ⟨_, _, _, Heap.get?_push_size _ rfl, rfl, rfl, rfl⟩
      (fok _ (I2.fpOk hge (I2.hok.fresh hge))) haf (by rw [hsz']; exact Nat.succ_ne_self _) (Array.getElem?_push_size ..)
  refine ⟨I2.nolimit, ?_⟩
  cases hf : codeAmong gpos ps.toList with
  | none =>
    refine wpAny_genexprCodeX hcode (cd.code hPs ht) (cd.tab hPs) hf fun c' h' tk hx hge hlt hco' _ htab' _ => ?_
    obtain ⟨o1, vs, f1, tf, fl, tg', inF, tx, tt, op, _, _, _, _, _, _, _, _, _, htr, _⟩ := hco'
    exact cont _ h' tk _ hx (Nat.le_trans hge (Nat.le_of_lt hlt)) htab'.2 ⟨_, rfl⟩ htr
  | some cv =>
    refine wpAny_genexprCode_hit hcode (cd.code hPs ht) hf ?_
    exact cont cv s2.heap s2.toks ps (Heap.ExtBut.refl _ _) (Nat.le_refl _) hPs ⟨#[], by simp⟩ ht
end
end Gx
end PySem
/-! ### the frame of the expression, as a context -/
namespace PySem
namespace Gx
open PySem.W PySem.Calls PyProof.Rows L2 GenW
abbrev gcx (X : L2.Cx) (B : Around) (s : Shared) (H : Hp) (env : Env) (fp : List Addr) (pn : List (Addr × Obj)) : L2.Cx :=
  { X with A := B, s_0 := s, H_0 := H, env := env, outer := X.stack, stack := env :: X.stack, ex := fp, fn := fun _ => false, pn := pn, xe := fun _ _ => False }
section
variable {X : L2.Cx} {pins : List (Addr × Obj)} {σ : L2.St} {H : Hp} {s4 s5 : Shared}
/-- s4: ahead of the frame; s5: the generator stands -/
theorem gx_start {B : Around} {scope : Scope} {own : List (Str × Nat)} {fp : List Addr} {pn : List (Addr × Obj)} {code it : Value} (I4 : Inv X pins σ H s4) (I5 : Inv X pins σ H s5) (ok : BlkOk X.N X.env.scope scope own) (hN : X.N.Nodup)
    (hcell : ∀ y ∈ scope.names, y.2 ≠ .cell) (hX : X.calm = true) (hB : B.handled = none) (hBf : B.frames = some (genEnv scope (cloFrom X.env.cells scope.names []) s4.heap.objs.size code builtinsNs X.env :: X.stack))
    (hfp : ∀ b ∈ fp, FpOk X pins H b ∧ b < s4.heap.objs.size) (keep : ∀ b o, s4.heap.get? b = some o → s5.heap.get? b = some o) (os : s5.os = s4.os)
    (hns : s5.heap.Ns s4.heap.objs.size (fun y => if y = ".0" then some it else none)) (hpn : ∀ p ∈ pn, s5.heap.get? p.1 = some p.2 ∧ H p.1 = none ∧ p.1 ≠ s4.heap.objs.size ∧ p.1 ∉ frs X.stack ∧ ∀ v, p.2.data ≠ .cell v) :
    Inv (gcx X B s4 H (genEnv scope (cloFrom X.env.cells scope.names []) s4.heap.objs.size code builtinsNs X.env) fp pn) [] (wipe σ (own.map (·.2))) H s5 := by
  have hfree : ∀ y ∈ scope.names, y.2 = .free → ∃ c, X.env.cells.lookup y.1 = some c := fun y hy e => by
    rcases ok.free y hy e with k | k
    · exact I4.ok.has _ (.inl k)
    · exact I4.ok.has _ (.inr k)
  have cm : ∀ {y c}, (y, c) ∈ cloFrom X.env.cells scope.names [] → X.env.cells.lookup y = some c ∧ c < s4.heap.objs.size := fun {y c} hm => by
    rcases cloFrom_mem hm with hm | ⟨h1, rfl⟩
    · cases hm
    · obtain ⟨c, hc⟩ := hfree _ h1 rfl
      rw [hc]
      obtain ⟨w, z⟩ := I4.cell _ _ hc
      exact ⟨rfl, z.lt⟩
  have mem : ∀ {y c}, (cloFrom X.env.cells scope.names []).lookup y = some c → X.env.cells.lookup y = some c ∧ c < s4.heap.objs.size := fun {y c} e => cm (PySem.mem_of_lookup e)
  have look : ∀ {y}, scope.names.lookup y = some .free → ∃ c, (cloFrom X.env.cells scope.names []).lookup y = some c ∧ X.env.cells.lookup y = some c := fun {y} hl => by
    have hy : (y, NameKind.free) ∈ scope.names := PySem.mem_of_lookup hl
    obtain ⟨c', e'⟩ := mem_lookup (cloFrom_has (cells := X.env.cells) (acc := []) hy)
    exact ⟨c', e', (mem e').1⟩
  have okB : (gcx X B s4 H (genEnv scope (cloFrom X.env.cells scope.names []) s4.heap.objs.size code builtinsNs X.env) fp pn).Ok := by
    refine ⟨I4.ok.mod, ok.kind, I4.ok.glob, rfl, Nat.le_refl _, fun y z c e1 e2 => I4.ok.inj y z c (mem e1).1 (mem e2).1, fun y hy => ?_, (fun y c z e => by cases z), fun _ => hB, hBf, .inr ⟨rfl, rfl⟩,
      fun b hb => ⟨Nat.ne_of_lt (hfp b hb).2, fun y c e z => (hfp b hb).1.2.2.2.2.1 y c (mem e).1 z⟩, I4.bs, Nat.le_trans I4.ok.bsz I4.sz, fun b o e hb => ?_, fun b hb z => ?_, I4.stack, I4.stkFree⟩
    · rcases hy with hy | hy
      · exact absurd rfl (hcell _ (PySem.mem_of_lookup hy))
      · obtain ⟨c, h1, _⟩ := look hy
        exact ⟨c, h1⟩
    · rcases (hfp b hb).1.2.2.2.1 with z | z
      · exact I4.ok.noex b o e z
      · exact absurd (Nat.lt_of_lt_of_le (Heap.lt_size e) (Nat.le_trans I4.ok.bsz z)) (Nat.lt_irrefl _)
    · rcases List.mem_cons.mp (I4.stkSub b z) with z | z
      · exact (hfp b hb).1.2.1 z
      · exact (hfp b hb).1.2.2.1 z
  refine ⟨okB, os, I5.bare, Un.kept keep, ⟨_, hns, fun i y av e1 e2 e3 => ?_⟩, fun y c e => ?_, I4.hok.fresh (Nat.le_refl _), fun y c e => I4.freeC y c (mem e).1, fun p hp => ?_, I5.hok, by rw [wipe_length]; exact I4.len⟩
  · obtain ⟨e2, hne⟩ := wipe_some e2
    have hfr : scope.names.lookup y = some .free := by
      have no : ∀ k, scope.names.lookup y = some k → ¬ (k = .local ∨ k = .cell) := fun k hk hh => by
        rcases ok.own _ (PySem.mem_of_lookup hk) hh with e' | e'
        · obtain ⟨p, hp, hpy⟩ := List.mem_map.mp e'
          have e3 := ok.ix p hp
          have : p.1 = y := hpy
          rw [this] at e3
          exact hne (List.mem_map.mpr ⟨p, hp, nodup_ix hN e3 e1⟩)
        · exact e' (List.mem_of_getElem? e1)
      rcases e3 with e3 | e3 | e3
      · exact absurd (.inl rfl) (no _ e3)
      · exact absurd (.inr rfl) (no _ e3)
      · exact e3
    obtain ⟨m, hn, hl⟩ := I4.loc
    have hvis : Vis X.env.scope y := (ok.free _ (PySem.mem_of_lookup hfr) rfl).elim (fun k => .inr (.inl k)) (fun k => .inr (.inr k))
    obtain ⟨w, r, q⟩ := hl i y av e1 e2 hvis
    refine ⟨w, r, .inr ⟨.inr hfr, ?_⟩⟩
    obtain ⟨c, h1, h2⟩ := look hfr
    rcases q with ⟨k, _⟩ | ⟨_, c', e', z⟩
    · have k : X.env.scope.names.lookup y = some .local := k
      rcases ok.free _ (PySem.mem_of_lookup hfr) rfl with k' | k' <;> rw [show X.env.scope.names.lookup y = _ from k'] at k <;> cases k
    · rw [h2] at e'; cases e'
      exact ⟨c, h1, z.keeps keep⟩
  · obtain ⟨w, z⟩ := I4.cell y c (mem e).1
    exact ⟨w, z.keeps keep⟩
  · have hp : p ∈ pn := by simpa using hp
    exact hpn p hp
/-- the frame's around: the one of the caller, that frame on it -/
theorem gx_frames {A : Around} {elt iter tg : Expr} {ifs : List Expr} {scope : Scope} {pos : Pos} {it : Value} {env : Env} {l : List Env} (hf : env.frame = some env.locals) (h : A.frames = some l) :
    (A.over (.compLoop (.GeneratorExp elt [⟨tg, iter, ifs, 0⟩] scope pos) 0 it .none env) []).frames = some (env :: l) := by
  obtain ⟨hd, d, fr, gs, u⟩ := A
  have h : fr = some l := h
  subst h
  simp [Around.over, envsOf, pushEnvs, Code.envs, Code.env?, Code.isFrame]
end
end Gx
end PySem
/-! ### the rule -/
namespace PySem
namespace Gx
open PySem.W PySem.Calls PyProof.Rows L2 GenW
/-- all(e for t in it if c) (stop = false), any(..) (stop = true): vs: the expression's own names' places, P: the table of the def's code -/
def tGen (stop : Bool) (wi : TI) (g : TG) (tt : TT) (te : TE) (vs : List Nat) (P : Addr) : TE := fun σ H Q => wi σ H fun J H1 => GxR.TabG H1 P ∧ ∀ H2, GxR.Tabbed P H1 H2 → ∃ W : Nat → Nat → Hp → Prop, (∃ m, W 0 m H2) ∧ ∀ i m H, W i m H →
  (J.stop i H ∧ Q (.bl (!stop)) H) ∨ (J.go i H ∧ ∃ Nx : Hp → Prop, (∀ H', Nx H' → ∃ m', m' < m ∧ W (i + 1) m' H') ∧ ∀ x H', J.yld i H x H' → g x (wipe σ vs) H' fun σ2 H2 => wipe σ2 vs = wipe σ vs ∧ tt σ2 H2 fun b H3 =>
    if b = true then te σ2 H3 fun y H4 => ∃ c, y = .bl c ∧ if c = stop then Q (.bl stop) H4 else Nx H4 else Nx H3)
section
variable {X : L2.Cx} {pins : List (Addr × Obj)} {σ : L2.St} {H : Hp} {s : Shared}
theorem inv_sl {Y : L2.Cx} {pins : List (Addr × Obj)} {σ : L2.St} {H : Hp} {s s' : Shared} (I : Inv Y pins σ H s) (h : Sl s s') : Inv Y pins σ H s' :=
  I.call' (ch := []) h.os (Un.kept fun b o e => by rw [h.heap]; exact e) (I.hok.kept fun b o e => by rw [h.heap]; exact e) h.bare fun b hb => absurd hb (by simp)
/-- back in the caller's frame -/
theorem gx_back {B : Around} {s4 s1 s' : Shared} {H2 H' : Hp} {env : Env} {fp : List Addr} {pn ps : List (Addr × Obj)} {σ' : L2.St} (I4 : Inv X pins σ H2 s4) (hfp : ∀ b ∈ fp, FpOk X pins H2 b) (Ig : Inv (gcx X B s4 H2 env fp pn) ps σ' H' s1) (e : Ex s1 s') : Inv X pins σ H' s' :=
  I4.call' (ch := fp) (e.os.trans Ig.os) (Ig.base.trans (Un.kept e.heap)) (Ig.hok.kept e.heap) e.bare fun b hb => ⟨(hfp b hb).2.2.2.1, (hfp b hb).2.1, (hfp b hb).2.2.2.2.1, (hfp b hb).2.2.2.2.2⟩
theorem pe_gen (stop : Bool) {c P : Addr} {elt tg iter : Expr} {ifs : List Expr} {x : Str} {f : String} {p pos gpos : Pos} {scope : Scope} {own : List (Str × Nat)} {wi : TI} {g : TG} {tt : TT} {te : TE} {k : Nat} (hf : f = if stop = true then "any" else "all")
    (hr : Room (k + 3) X.A) (hc : X.calm = true) (hN : X.N.Nodup) (hg : Gl X f) (hm : X.mg f = none) (TB : GxR.TabB X.base X.mg c P) (hcode : X.env.code = .ref c) (S : GxR.GenS X.env scope x) (ok : BlkOk X.N X.env.scope scope own)
    (hi : PI X tg iter wi)
    (ht : ∀ (B : Around) (s : Shared) (H : Hp) (C : Addr) (code : Value) (fp : List Addr) (pn : List (Addr × Obj)), Room k B → PG (gcx X B s H (genEnv scope (cloFrom X.env.cells scope.names []) C code builtinsNs X.env) fp pn) tg g)
    (hts : ∀ (B : Around) (s : Shared) (H : Hp) (C : Addr) (code : Value) (fp : List Addr) (pn : List (Addr × Obj)), Room k B → PTs (gcx X B s H (genEnv scope (cloFrom X.env.cells scope.names []) C code builtinsNs X.env) fp pn) ifs tt)
    (hel : ∀ (B : Around) (s : Shared) (H : Hp) (C : Addr) (code : Value) (fp : List Addr) (pn : List (Addr × Obj)), Room k B → PE (gcx X B s H (genEnv scope (cloFrom X.env.cells scope.names []) C code builtinsNs X.env) fp pn) elt te)
    (hs : ∀ v, genFold iter X.env v = pure v)
    (he : starEach [.GeneratorExp elt [⟨tg, iter, ifs, 0⟩] scope gpos] X.env = (false, eval (.GeneratorExp elt [⟨tg, iter, ifs, 0⟩] scope gpos) X.env) :: starEach [] X.env := by rfl) :
    PE X (.Call (.Name f p) [.GeneratorExp elt [⟨tg, iter, ifs, 0⟩] scope gpos] [] pos) (tGen stop wi g tt te (own.map (·.2)) P) := by
  refine ⟨fun pins s σ H Q I h => ?_⟩
  have hstk := I.ok.frames
  have fin : ∀ (a : Addr) (g : Nat) (m : Nat) (s5 : Shared), Wx X.prog X.w X.A.in1.in1 a g stop (Cx a g stop fun s' => ∃ v H', Inv X pins σ H' s' ∧ RelV v (.bool stop) ∧ Q v H') (Dx fun s' => ∃ v H', Inv X pins σ H' s' ∧ RelV v (.bool !stop) ∧ Q v H') m s5 →
      wpAny (model X.prog X.w) X.A (call (.builtin f) [.ref a]) (fun u s' => ∃ v H', Inv X pins σ H' s' ∧ RelV v u ∧ Q v H') X.xe s5 := by
    intro a g m s5 hW
    subst hf
    cases stop with
    | false => exact call_all_gen (Q := fun u s' => ∃ v H', Inv X pins σ H' s' ∧ RelV v u ∧ Q v H') hr.hd (by have := hr.dp; omega) hW
    | true => exact call_any_gen (Q := fun u s' => ∃ v H', Inv X pins σ H' s' ∧ RelV v u ∧ Q v H') hr.hd (by have := hr.dp; omega) hW
  have hb : bootBuiltins f = some (.builtin f) := by subst hf; cases stop <;> decide +kernel
  refine wpAny_Call_Name_kw (ld_blt I hg hm hb ?_ (by subst hf; cases stop <;> decide) (by subst hf; cases stop <;> decide))
  refine PyProof.Rows.callWith_builtin1 ?_ he (by rfl)
  rw [he]
  show wpAny _ _ (spliced ((false, eval (.GeneratorExp elt [⟨tg, iter, ifs, 0⟩] scope gpos) X.env) :: backTo pos (starEach [] X.env))) _ _ s
  refine Calls.spliced_cons (gen_make hr TB hcode S hi hs I h fun it fp tn J H1 H2 code C a gi s4 s5 q tab I4 hC keep os st4 I5 T st5 f2 hns fC hCf hgen fa haf haC hgs => ?_)
  refine Calls.spliced_nil ?_
  obtain ⟨W, ⟨m0, w0⟩, turn⟩ := q H2 tab
  subst hC
  have lt4 : ∀ b ∈ fp, b < s4.heap.objs.size := fun b hb => by
    obtain ⟨o, ho, _⟩ := T.obj _ _ st4 b hb
    exact Heap.lt_size ho
  obtain ⟨ga, gnm, gqn, gho, gr⟩ := id hgen
  obtain ⟨gcl, gdt, gsl⟩ := gr
  have bh : ∀ {c : Code}, (X.A.in1.in1.over c []).handled = none := fun {c} => hr.hd
  have rb : Room k (X.A.in1.in1.over (.compLoop (.GeneratorExp elt [⟨tg, iter, ifs, 0⟩] scope gpos) 0 (.ref it) .none (genEnv scope (cloFrom X.env.cells scope.names []) s4.heap.objs.size code builtinsNs X.env)) []) := ⟨hr.hd, by
    have := hr.dp
    show X.A.depth + 1 + 3 * k + 5 < recursionLimit
    omega, by
    have := hr.un
    show X.A.units + 5 + 16 * k + 200 < cLine
    omega⟩
  have I6 := gx_start (code := code) (it := .ref it) (own := own) (pn := [(a, ga)]) I4 I5 ok hN S.cell hc (B := X.A.in1.in1.over (.compLoop (.GeneratorExp elt [⟨tg, iter, ifs, 0⟩] scope gpos) 0 (.ref it) .none (genEnv scope (cloFrom X.env.cells scope.names []) s4.heap.objs.size code builtinsNs X.env)) [])
    hr.hd (gx_frames rfl hstk) (fun b hb => ⟨f2 b hb, lt4 b hb⟩) keep os hns (fun p hp => by
      rw [List.mem_singleton.mp hp]
      refine ⟨gho, fa.1, haC, fun z => ?_, fun v z => ?_⟩
      · rcases List.mem_cons.mp (I4.stkSub a z) with z | z
        · exact fa.2.1 z
        · exact fa.2.2.1 z
      · rw [gdt] at z; cases z)
  refine fin a gi (m0 + 1) s5 ⟨hgen, I5.nolimit, I5.bare, _, hgs, rfl, seg_rg (seg_start (fun B Q E hq => T.self B 0 _ Q E st5 hq) (seg_loop rfl S.co
    (fun m s => ∃ i H', Inv (gcx X (X.A.in1.in1.over (.compLoop (.GeneratorExp elt [⟨tg, iter, ifs, 0⟩] scope gpos) 0 (.ref it) .none (genEnv scope (cloFrom X.env.cells scope.names []) s4.heap.objs.size code builtinsNs X.env)) []) s4 H2 (genEnv scope (cloFrom X.env.cells scope.names []) s4.heap.objs.size code builtinsNs X.env) fp [(a, ga)]) [] (wipe σ (own.map (·.2))) H' s ∧
      tn i s.heap ∧ (∀ b ∈ fp, H' b = none) ∧ W i m H') ?_ m0 (m0 + 1) _ _ (Nat.lt_succ_self _) ⟨0, H2, ?_, st5, fun b hb => (f2 b hb).1, w0⟩))⟩
  · generalize hBB : X.A.in1.in1.over (.compLoop (.GeneratorExp elt [⟨tg, iter, ifs, 0⟩] scope gpos) 0 (.ref it) .none (genEnv scope (cloFrom X.env.cells scope.names []) s4.heap.objs.size code builtinsNs X.env)) [] = B at rb ⊢
    have pg := ht B s4 H2 s4.heap.objs.size code fp [(a, ga)] rb
    have pt := hts B s4 H2 s4.heap.objs.size code fp [(a, ga)] rb
    have pe := hel B s4 H2 s4.heap.objs.size code fp [(a, ga)] rb
    have stat : ∀ {σ' : L2.St} {H' : Hp} {s' : Shared}, Inv (gcx X B s4 H2 (genEnv scope (cloFrom X.env.cells scope.names []) s4.heap.objs.size code builtinsNs X.env) fp [(a, ga)]) [] σ' H' s' → (∀ b ∈ fp, H' b = none) → ∀ b ∈ fp, FpOk (gcx X B s4 H2 (genEnv scope (cloFrom X.env.cells scope.names []) s4.heap.objs.size code builtinsNs X.env) fp [(a, ga)]) [] H' b := fun {σ' H' s'} I' hn b hb =>
      ⟨hn b hb, (I'.ok.exf b hb).1, I'.ok.exfs b hb, .inl hb, fun x c e => (I'.ok.exf b hb).2 x c e, fun p hp => by
        have hp : p ∈ [(a, ga)] ++ [] := hp
        rw [List.append_nil, List.mem_singleton] at hp
        rw [hp]
        exact fun z => haf (by rw [show a = b from z]; exact hb)⟩
    rintro m s5' ⟨i, H5, I5', st5', n5, w5⟩
    rcases turn i m H5 w5 with ⟨stop_, qq⟩ | ⟨go, Nx, hNx, step⟩
    · refine thnF (T.done (gcx X B s4 H2 (genEnv scope (cloFrom X.env.cells scope.names []) s4.heap.objs.size code builtinsNs X.env) fp [(a, ga)]) rfl rfl rfl hc i [] s5' _ H5 (fun _ _ => False) I5' (stat I5' n5) st5' stop_) fun r s6 ⟨hr6, I6⟩ => ?_
      subst hr6
      exact ⟨I6.bare, fun s' ex => ⟨.bl (!stop), H5, gx_back I4 f2 I6 ex, rfl, qq⟩⟩
    · refine thnF (T.item (gcx X B s4 H2 (genEnv scope (cloFrom X.env.cells scope.names []) s4.heap.objs.size code builtinsNs X.env) fp [(a, ga)]) rfl rfl rfl hc i [] s5' _ H5 (fun _ _ => False) I5' (stat I5' n5) st5' go) fun r s6 ⟨u, hr6, h6⟩ => ?_
      subst hr6
      refine thnF h6 fun _ s7 ⟨x, H7, I7, r7, y7, st7, n7⟩ => ?_
      have I7' := I7.pinned (stat I7 n7) (T.obj _ _ st7)
      refine thnF (pg.run _ s7 _ H7 x u _ I7' r7 (step x H7 y7)) fun _ s8 ⟨σ8, H8, I8, hw8, q8⟩ => ?_
      refine thnF (pt.run _ s8 σ8 H8 _ I8 q8) fun b s9 ⟨H9, I9, q9⟩ => ?_
      have fin2 : ∀ {s' : Shared} {H' : Hp}, Inv (gcx X B s4 H2 (genEnv scope (cloFrom X.env.cells scope.names []) s4.heap.objs.size code builtinsNs X.env) fp [(a, ga)]) ([] ++ pinsAt fp s7.heap) σ8 H' s' → Nx H' → ∃ m', m' < m ∧ ∃ i H', Inv (gcx X B s4 H2 (genEnv scope (cloFrom X.env.cells scope.names []) s4.heap.objs.size code builtinsNs X.env) fp [(a, ga)]) [] (wipe σ (own.map (·.2))) H' s' ∧ tn i s'.heap ∧ (∀ b ∈ fp, H' b = none) ∧ W i m' H' := fun {s' H'} I' nx => by
        obtain ⟨m', hm, w'⟩ := hNx H' nx
        have pin' : ∀ b ∈ fp, ∀ o, s7.heap.get? b = some o → s'.heap.get? b = some o ∧ H' b = none := fun b hb o e =>
          let z := I'.pin (b, o) (List.mem_append_right _ (List.mem_append_right _ (mem_pinsAt hb e)))
          ⟨z.1, z.2.1⟩
        have hl : (wipe σ (own.map (·.2))).length = σ8.length := by rw [← hw8, wipe_length]
        refine ⟨m', hm, i + 1, H', (I'.unpinned (pins := [])).weak hl (fun j v e => ?_), T.keep _ _ _ st7 fun b hb o e => (pin' b hb o e).1, fun b hb => ?_, w'⟩
        · rw [← hw8] at e
          exact (wipe_some e).1
        · obtain ⟨o, e, _⟩ := T.obj _ _ st7 b hb
          exact (pin' b hb o e).2
      cases b with
      | false =>
        simp only [Bool.false_eq_true, if_false] at q9 ⊢
        exact fin2 I9 q9
      | true =>
        simp only [if_true] at q9 ⊢
        refine thnF (pe.run _ s9 σ8 H9 _ I9 q9) fun z s10 ⟨yv, H10, I10, r10, b10, e10, q10⟩ => ?_
        subst e10
        have r10 : z = .bool b10 := r10
        refine ⟨⟨b10, r10, ⟨ga, gnm, gqn, (I10.pin (a, ga) (by simp)).1, gcl, gdt, gsl⟩, I10.nolimit, I10.bare, fun e s' hs' => ?_⟩, ?_⟩
        · rw [if_pos e] at q10
          exact ⟨.bl stop, H10, gx_back I4 f2 I10 ⟨hs'.os, hs'.bare, fun b o q => by rw [hs'.heap]; exact q⟩, rfl, q10⟩
        · intro gy
          rw [r10] at gy
          have gy : b10 = !stop := by injection gy
          rw [if_neg (by rw [gy]; cases stop <;> decide)] at q10
          obtain ⟨m', hm, i', H', J', rest⟩ := fin2 I10 q10
          exact ⟨m', hm, fun s' hs' => ⟨i', H', inv_sl J' hs', by rw [hs'.heap]; exact rest.1, rest.2⟩⟩
  · exact inv_sl I6 ⟨rfl, allBare_setGen I5.bare rfl, rfl⟩
end
end Gx
end PySem
/-! ### the form one uses: over any walk of the hand layer (walk_list, walk_tup, walk_range, ..) -/
namespace PySem
namespace Gx
open PySem.W PySem.Calls PyProof.Rows L2 GenW
/-- Pv: what is true ahead of each turn; an element's answer ends the walk or leads to the next turn -/
theorem gen_walk {J : It} {n : Nat} {G : Hp → Prop} {Y : Nat → Hp → V → Hp → Prop} {g : TG} {tt : TT} {te : TE} {vs : List Nat} {σ : L2.St} {Hs : Hp} {stop : Bool} {Q : VK} (w : Walk J n G Y) (Pv : Nat → Hp → Prop) (first : Pv 0 Hs) (stands : ∀ i H, Pv i H → G H)
    (turn : ∀ i x H H', i < n → Pv i H → Y i H x H' → g x (wipe σ vs) H' fun σ2 H2 => wipe σ2 vs = wipe σ vs ∧ tt σ2 H2 fun b H3 => if b = true then te σ2 H3 fun y H4 => ∃ c, y = .bl c ∧ if c = stop then Q (.bl stop) H4 else Pv (i + 1) H4 else Pv (i + 1) H3)
    (last : ∀ H, Pv n H → Q (.bl (!stop)) H) : ∃ W : Nat → Nat → Hp → Prop, (∃ m, W 0 m Hs) ∧ ∀ i m H, W i m H →
      (J.stop i H ∧ Q (.bl (!stop)) H) ∨ (J.go i H ∧ ∃ Nx : Hp → Prop, (∀ H', Nx H' → ∃ m', m' < m ∧ W (i + 1) m' H') ∧ ∀ x H', J.yld i H x H' → g x (wipe σ vs) H' fun σ2 H2 => wipe σ2 vs = wipe σ vs ∧ tt σ2 H2 fun b H3 =>
        if b = true then te σ2 H3 fun y H4 => ∃ c, y = .bl c ∧ if c = stop then Q (.bl stop) H4 else Nx H4 else Nx H3) := by
  refine ⟨fun i left H => i + left = n ∧ Pv i H, ⟨n, Nat.zero_add n, first⟩, fun i left H here => ?_⟩
  obtain ⟨count, now⟩ := here
  cases left with
  | zero =>
    obtain rfl : i = n := count
    exact .inl ⟨w.stops H (stands _ H now), last H now⟩
  | succ fewer =>
    have more : i < n := by omega
    exact .inr ⟨w.goes i H more (stands i H now), Pv (i + 1), fun H' then_ => ⟨fewer, Nat.lt_succ_self fewer, by omega, then_⟩, fun x H' given => turn i x H H' more now (w.yields i H x H' more (stands i H now) given)⟩
end Gx
end PySem
namespace PySem
namespace Gx
open PySem PySem.W PySem.Calls PyProof.Rows L2 GenW
/-- the names of a generator expression, checked -/
theorem genS_by {env : Env} {scope : Scope} {x : Str} (h1 : scope.kind = .function) (h2 : scope.isCoroutine = false) (h3 : (scope.names.all fun y => match y.2 with | .cell => false | _ => true) = true) (h4 : scope.names.lookup (".0" : Str) = some NameKind.local)
    (h5 : scope.names.lookup x = some .local) (h6 : (scope.names.all fun y => match y.2 with | .free => (env.cells.lookup y.1).isSome | _ => true) = true) : GxR.GenS env scope x where
  kind := h1
  co := h2
  cell := fun y hy z => by
    have := List.all_eq_true.mp h3 y hy
    rw [z] at this
    cases this
  dot := h4
  loc := h5
  free := fun y hy z => by
    have := List.all_eq_true.mp h6 y hy
    rw [z] at this
    exact Option.isSome_iff_exists.mp this
theorem walk_zipT {K : PySem.W.Frag} {a b : Addr} {xs ys : List V} {n : Nat} (hn : n = min xs.length ys.length) : Walk (RZ.ItzT K a b) n (fun H => SqT K H a xs ∧ SqT K H b ys) (YPair (fun i => xs[i]?) (fun i => ys[i]?)) := by
  subst hn
  refine ⟨fun i _ hi q => ?_, fun _ q => ⟨xs, ys, q.1, q.2, by omega⟩, fun i H v H' _ q y => ?_⟩
  · have h1 : i < xs.length := by omega
    have h2 : i < ys.length := by omega
    exact ⟨xs, ys, xs[i], ys[i], q.1, q.2, by simp [h1], by simp [h2]⟩
  · obtain ⟨T, x, z, h1, h2, h3, h4, h5⟩ := y
    exact ⟨T, x, z, h1, h2, h3, h4 xs q.1, h5 ys q.2⟩
end Gx
end PySem
namespace My
open PySem L2 PySem.Spec PyProof.Rows
theorem yesI {σ : L2.St} {H : Hp} {F : Bool → Hp → Prop} (h : F true H) : tYes σ H F := h
/-- a sum of tuples, wherever it stands -/
theorem catA_of {K : PySem.W.Frag} {H : Hp} {Q : VK} {a b : Addr} {xs ys : List V} (hx : SqT K H a xs) (hy : SqT K H b ys) (hl : xs.length + ys.length ≤ sizeLine) (k : ∀ p H', Same H H' → SqT K H' p (xs ++ ys) → Q (.ref p) H') : rCatA K (.ref a) (.ref b) H Q := by
  refine ⟨a, b, xs, ys, rfl, rfl, hx, hy, hl, fun e => ?_, fun _ e => ?_, fun _ _ p hp => k p _ (same_new hp) tHere⟩
  · subst e; exact k b H (Same.refl _) hy
  · subst e; exact k a H (Same.refl _) (by rw [List.append_nil]; exact hx)
theorem cut_whole {xs : List V} {lo hi : Option Int} (h : HT.sIx xs.length 0 lo = 0 ∧ HT.sIx xs.length xs.length hi = xs.length) : cutV xs lo hi = xs := by
  unfold cutV
  rw [h.1, h.2]
  simp
theorem slA_of {K : PySem.W.Frag} {H : Hp} {Q : VK} {a : Addr} {xs : List V} {lo hi : Option Int} (hx : SqT K H a xs) (k : ∀ p H', Same H H' → SqT K H' p (cutV xs lo hi) → Q (.ref p) H') : rSlA K (.ref a) lo hi H Q :=
  ⟨a, xs, rfl, hx, fun h => k a H (Same.refl _) (by rw [cut_whole h]; exact hx), fun _ p hp => k p _ (same_new hp) tHere⟩
/-- both ways lead on -/
theorem iteR {c : Prop} [Decidable c] {R A B : Prop} (r : R) (hB : ¬ c → R → B) (hA : c → R → A) : if c then A else B := by
  by_cases h : c
  · rw [if_pos h]; exact hA h r
  · rw [if_neg h]; exact hB h r
theorem pe_gS {X : Cx} {x : Str} {z : Str} {pos : Pos} (hm : ∃ t, X.mg x = some (.str z t)) (hg : Gl X x := by rfl) (hd : (x == ("__debug__" : Str)) = false := by decide) (hcd : (x == ("__classdict__" : Str)) = false := by decide) : PE X (.Name x pos) (tC (.str z)) := by
  obtain ⟨t, e⟩ := hm
  exact pe_glob hg e ⟨t, rfl⟩ hd
/-- a def of which the code object is known -/
structure FunT (K : PySem.W.Frag) (x qual : Str) (st : Stmt) (f : Addr) (fd : FuncData) (c : Addr) : Prop where
  ex : ∃ (oc : Value) (od : Option Addr) (kV doc pm : Value) (an : Option Addr) (ct : Value) (osl : Array (Option Value)),
    fd = PySem.W.fnOf x qual (defArgs st) (defBody st) (defScope st) .none kV doc pm an (.ref c) ct ∧ K.lookup f = some ⟨oc, od, .func fd, osl⟩ ∧ PySem.W.codeIn K (.ref c) qual = true
  kp : PySem.W.keepIn K (.ref f) = true
theorem FunT.toFun {K : PySem.W.Frag} {x qual : Str} {st : Stmt} {f : Addr} {fd : FuncData} {c : Addr} (F : FunT K x qual st f fd c) : Fun K x qual st f fd := by
  obtain ⟨⟨oc, od, kV, doc, pm, an, ct, osl, h⟩, kp⟩ := F
  exact ⟨⟨oc, od, kV, doc, pm, an, _, ct, osl, h⟩, kp⟩
theorem funT_mk {K : PySem.W.Frag} {x qual : Str} {st : Stmt} {f c : Addr} {oc : Value} {od an : Option Addr} {osl : Array (Option Value)} {kV doc pm cdv ct : Value} (l : K.lookup f = some ⟨oc, od, .func (PySem.W.fnOf x qual (defArgs st) (defBody st) (defScope st) .none kV doc pm an cdv ct), osl⟩)
    (h : PySem.W.codeIn K cdv qual = true) (k : PySem.W.keepIn K (.ref f) = true) (e : cdv = .ref c) : FunT K x qual st f (PySem.W.fnOf x qual (defArgs st) (defBody st) (defScope st) .none kV doc pm an cdv ct) c := by
  subst e
  exact ⟨⟨oc, od, kV, doc, pm, an, ct, osl, rfl, l, h⟩, k⟩
section
variable {P : Program} {w : World} {K : PySem.W.Frag} {mg : Str → Option Value} {base : Heap}
theorem FunT.ok {x qual : Str} {st : Stmt} {f c : Addr} {fd : FuncData} {N ps : List Str} {k : Nat} {sp : Sp} (F : FunT K x qual st f fd c) (S : FnScope N ps (defScope st)) (len : ∀ vs H Q E, sp vs H Q E → vs.length = ps.length)
    (hbody : ∀ (A : Around) (outer : List Env) (s : Shared) (H : Hp) (vs : List V) (Q : VK) (E : XK), Room k (A.deeper (envOfC qual (defScope st) s.heap.objs.size f (.ref c))) → sp vs H Q E →
      ∃ t, PSs (cxOf CX0 P w K mg base N qual (defScope st) f (.ref c) A outer s H E).nox (defBody st) t ∧ t { nx := fun _ H' => Q .non H', rt := Q } (start N vs) H) : FnOk P w K mg base CX0 (k + 1) f fd ps sp := by
  obtain ⟨oc, od, kV, doc, pm, an, ct, osl, rfl, lk, hcd⟩ := F.ex
  refine fn_of lk hcd S len fun A outer s H vs Q E hr hsp => ?_
  obtain ⟨t, h, q⟩ := hbody A outer s H vs Q E hr hsp
  exact ⟨t, h.nox, q⟩
end
/-- a def's code object and its table, from what stands in the part that is written out -/
theorem tabIn_of {K : PySem.W.Frag} {x : Str} {f c P : Addr} {oc t1 cdv : Value} {od t2 : Option Addr} {fd : FuncData} {osl t3 : Array (Option Value)} {vs : Array Value} (a : PySem.W.nsIn K mainGlobals x = some (some (.ref f))) (l : K.lookup f = some ⟨oc, od, .func fd, osl⟩) (hc : fd.code = cdv) (e : cdv = .ref c)
    (o : K.lookup c = some ⟨t1, t2, .fields vs, t3⟩) (v : (vs[11]? : Option Value) = some (.ref P)) : PySem.W.tabIn K x = some (c, P) := by
  unfold PySem.W.tabIn
  rw [a]
  show (match K.lookup f with | some ⟨_, _, .func fd, _⟩ => _ | _ => none) = _
  rw [l]
  show (match fd.code with | .ref c => _ | _ => none) = _
  rw [hc, e]
  show (match K.lookup c with | some ⟨_, _, .fields vs, _⟩ => _ | _ => none) = _
  rw [o]
  show (match (vs[11]? : Option Value) with | some (.ref P) => _ | _ => none) = _
  rw [v]
/-- a law with tables: what its promise asks -/
def spLawT (K : PySem.W.Frag) (ts : List Addr) : Sp := fun vs H Q _ => ∃ (a : Addr) (ns : List Int), vs = [.ref a] ∧ SqL K H a (ns.map V.int) ∧ ns.length ≤ 63 ∧ Tbs ts H ∧ ∀ H', Q (.bl true) H'
/-- what is known of the tables at the head -/
def TabsOf (q : Program) (K : PySem.W.Frag) (h : Heap) : Prop := ∀ (x : Str) (c P : Addr), ((recsOf q).any fun e => e.name == x) = true → PySem.W.tabIn K x = some (c, P) → PySem.W.CodeHd h c P ∧ h.get? P = some (PySem.W.tabObj #[])
theorem walkT {l : PySem.W.OpenLaw} {q : Program} {loose : List Str} {XP : (Str → Option Value) → Heap → Prop} {YP : World → Heap → Prop} {d : DefRec} {K : Params → PySem.W.Frag} {k : Nat} (hr : Room k callerA) (hn : l.most = some 63) (hdf : d.params.defaults = [])
    (hY : ∀ (w : World) (h : Heap), YP w h → (K w.params).In h)
    (F : ∀ (w : World) (mg : Str → Option Value) (fa : Addr) (h : Heap), TabsOf q (K w.params) h → (K w.params).In h → h.Ns mainGlobals mg → mg d.name = some (.ref fa) → LamX.LawAtS l w (K w.params) CX0 k 63 "script" mg fa h) :
    PySem.W.WalkO q loose XP YP l.row.toRowW d [] (fun f vs => PySem.call f vs) := by
  refine Att.attach_callB hn hdf fun w s₀ s₁ mg mb fa o pm cd doc a vs ns G Y ho hd hcd hmg hobj hints hlen hbits hg => ?_
  have KX := hY w _ Y
  obtain ⟨fd, cs, sp, hT, nT, C, hb, hsp, hF⟩ := F w mg fa _ (fun x c P hr ht => by
    obtain ⟨e, he⟩ := List.find?_isSome.mpr (List.any_eq_true.mp hr) |> Option.isSome_iff_exists.mp
    exact PySem.W.tab_of G.T KX he ht) KX G.T.g hmg
  exact LamX.law_callTs (CX := CX0) (k := k) (x := "script") KX G.T.g G.T.b G.T.builtins G.T.nolimit hg hT nT C G.T.bmain hobj hints (Nat.le_trans hlen (by decide)) hr hF hb (fun H hH hS => hsp H a ns hlen hbits hH hS) fun _ _ _ z => z
theorem tbs_nil {cs : List (Addr × Addr)} {ts : List Addr} {H : Hp} (e : cs.map (·.2) = ts) (h : ∀ p ∈ cs, H p.2 = some (.tbl #[])) : Tbs ts H := fun P hP => by
  subst e
  obtain ⟨p, hp, rfl⟩ := List.mem_map.mp hP
  exact ⟨#[], h p hp, True.intro⟩
end My
namespace My
open PySem L2
/-! ## looks, rules, styles as values -/
def betB (lo hi : Int) : V → Bool
  | .int i => decide (lo ≤ i) && decide (i ≤ hi)
  | _ => false
def LET : List Nat := (Str.ofString "abcdefghijklmnopqrstuvwxyz").cps.toList
def DIG : List Nat := (Str.ofString "0123456789").cps.toList
def headB : List Nat → Bool
  | c :: _ => decide (c ∈ LET)
  | [] => false
def nameB (s : Str) : Bool := (decide ((1 : Int) ≤ s.length) && decide ((s.length : Int) ≤ 12)) && (headB s.cps.toList && s.cps.toList.all fun c => decide (c ∈ LET) || decide (c ∈ DIG))
def nameV : V → Bool
  | .str s => nameB s
  | _ => false
def lookB : List V → Bool
  | [u, v] => betB 1 63 v && decide (u = .str "fill")
  | [u, v, x] => betB 1 63 v && ((decide (u = .str "stroke") || decide (u = .str "dot")) && betB 1 16 x)
  | _ => false
theorem lookB_ns {u v : V} {r : List V} (h : ∀ s, u ≠ .str s) : lookB (u :: v :: r) = false := by
  match r with
  | [] => show (betB 1 63 v && decide _) = false; rw [decide_eq_false (h _), Bool.and_false]
  | [x] => show (betB 1 63 v && ((decide _ || decide _) && betB 1 16 x)) = false; rw [decide_eq_false (h _), decide_eq_false (h _)]; simp
  | _ :: _ :: _ => rfl
theorem lookB_c {u v : V} {r : List V} (h : betB 1 63 v = false) : lookB (u :: v :: r) = false := by
  match r with
  | [] => show (betB 1 63 v && decide _) = false; rw [h, Bool.false_and]
  | [x] => show (betB 1 63 v && _) = false; rw [h, Bool.false_and]
  | _ :: _ :: _ => rfl
/-- the words that stand ahead -/
def lookU (xs : List V) : Prop := ∀ s r, xs = .str s :: r → s = "fill" ∨ s = "stroke" ∨ s = "dot" ∨ s = "paint"
def leV : V → V → Bool
  | .int i, .int j => decide (i ≤ j)
  | _, _ => false
def ruleB (k l m o : V) (c : Bool) : Bool := (nameV k || decide (k = .str "")) && (betB 0 6 l && (betB 0 6 m && (leV l m && (betB (-8) 8 o && c))))
section
variable {K : PySem.W.Frag} {H H' : Hp} {a p s D : Addr} {x v : V} {b c : Bool} {xs : List V} {o : HO}
/-- x is a value of which is_look is b -/
def LV (K : PySem.W.Frag) (H : Hp) (x : V) (b : Bool) : Prop := ∃ n, Ty K H x n ∧ (n = "tuple" → ∃ a xs, x = .ref a ∧ SqT K H a xs ∧ (∀ v ∈ xs, ∃ m, Ty K H v m) ∧ lookU xs ∧ b = lookB xs) ∧ (n ≠ "tuple" → b = false)
def RV (K : PySem.W.Frag) (H : Hp) (x : V) (b : Bool) : Prop := ∃ n, Ty K H x n ∧ (n = "tuple" → ∃ a xs, x = .ref a ∧ SqT K H a xs ∧ ((xs.length ≠ 5 ∧ b = false) ∨
  ∃ k l m o u c, xs = [k, l, m, o, u] ∧ (k = .non ∨ ∃ s : Str, k = .str s ∧ s.length ≤ 100) ∧ (∃ n, Ty K H l n) ∧ (∃ n, Ty K H m n) ∧ (∃ n, Ty K H o n) ∧ LV K H u c ∧ b = ruleB k l m o c)) ∧ (n ≠ "tuple" → b = false)
def StV (K : PySem.W.Frag) (H : Hp) (x : V) (b : Bool) : Prop := ∃ n, Ty K H x n ∧ (n = "tuple" → ∃ (a : Addr) (xs : List V) (bs : List Bool), x = .ref a ∧ SqT K H a xs ∧ xs.length ≤ 1000 ∧ bs.length = xs.length ∧
  (∀ (i : Nat) v c, xs[i]? = some v → bs[i]? = some c → RV K H v c) ∧ b = (decide ((xs.length : Int) ≤ 12) && bs.all id)) ∧ (n ≠ "tuple" → b = false)
theorem LV.same (e : Same H H') (h : LV K H x b) : LV K H' x b := by
  obtain ⟨n, t, h1, h2⟩ := h
  refine ⟨n, t.same e, fun q => ?_, h2⟩
  obtain ⟨a, xs, e1, e2, e3, e4⟩ := h1 q
  exact ⟨a, xs, e1, tSame e e2, fun v hv => (e3 v hv).imp fun _ h => h.same e, e4⟩
theorem RV.same (e : Same H H') (h : RV K H x b) : RV K H' x b := by
  obtain ⟨n, t, h1, h2⟩ := h
  refine ⟨n, t.same e, fun q => ?_, h2⟩
  obtain ⟨a, xs, e1, e2, e3⟩ := h1 q
  refine ⟨a, xs, e1, tSame e e2, e3.imp (fun z => z) ?_⟩
  rintro ⟨k, l, m, o, u, c, f1, f2, f3, f4, f5, f6, f7⟩
  exact ⟨k, l, m, o, u, c, f1, f2, f3.imp fun _ h => h.same e, f4.imp fun _ h => h.same e, f5.imp fun _ h => h.same e, f6.same e, f7⟩
/-- a good look -/
inductive Look : List V → Prop where
  | fill (c : Int) (h1 : 1 ≤ c) (h2 : c ≤ 63) : Look [.str "fill", .int c]
  | line (s : Str) (c w : Int) (hs : s = "stroke" ∨ s = "dot") (h1 : 1 ≤ c) (h2 : c ≤ 63) (h3 : 1 ≤ w) (h4 : w ≤ 16) : Look [.str s, .int c, .int w]
theorem two_ty {u v : V} {m n : String} (h1 : Ty K H u m) (h2 : Ty K H v n) : ∀ x ∈ [u, v], ∃ m, Ty K H x m := by
  intro x hx
  simp only [List.mem_cons, List.not_mem_nil, or_false] at hx
  rcases hx with rfl | rfl
  · exact ⟨_, h1⟩
  · exact ⟨_, h2⟩
theorem three_ty {u v z : V} {m n k : String} (h1 : Ty K H u m) (h2 : Ty K H v n) (h3 : Ty K H z k) : ∀ x ∈ [u, v, z], ∃ m, Ty K H x m := by
  intro x hx
  simp only [List.mem_cons, List.not_mem_nil, or_false] at hx
  rcases hx with rfl | rfl | rfl
  · exact ⟨_, h1⟩
  · exact ⟨_, h2⟩
  · exact ⟨_, h3⟩
theorem Look.ty (h : Look xs) : ∀ x ∈ xs, ∃ m, Ty K H x m := by
  cases h with
  | fill c _ _ => exact two_ty (.str _) (.int _)
  | line s c w _ _ _ _ _ => exact three_ty (.str _) (.int _) (.int _)
theorem Look.u (h : Look xs) : lookU xs := by
  intro s r e
  cases h with
  | fill c _ _ => injection e with e _; injection e with e; exact .inl e.symm
  | line z c w hs _ _ _ _ =>
    injection e with e _
    injection e with e
    subst e
    rcases hs with rfl | rfl
    · exact .inr (.inl rfl)
    · exact .inr (.inr (.inl rfl))
theorem betB_ok {lo hi i : Int} (h1 : lo ≤ i) (h2 : i ≤ hi) : betB lo hi (.int i) = true := by simp [betB, h1, h2]
theorem betB_no {lo hi i : Int} (h : i < lo ∨ hi < i) : betB lo hi (.int i) = false := by
  simp only [betB, Bool.and_eq_false_iff, decide_eq_false_iff_not]
  omega
theorem Look.ok (h : Look xs) : lookB xs = true := by
  cases h with
  | fill c h1 h2 => show (betB 1 63 (.int c) && decide _) = true; rw [betB_ok h1 h2]; rfl
  | line s c w hs h1 h2 h3 h4 =>
    show (betB 1 63 (.int c) && ((decide _ || decide _) && betB 1 16 (.int w))) = true
    rw [betB_ok h1 h2, betB_ok h3 h4]
    rcases hs with rfl | rfl <;> decide
theorem LV.of (h : SqT K H a xs) (hm : ∀ v ∈ xs, ∃ m, Ty K H v m) (hu : lookU xs) (e : lookB xs = b) : LV K H (.ref a) b := ⟨_, .tup h, fun _ => ⟨_, _, rfl, h, hm, hu, e.symm⟩, fun z => absurd rfl z⟩
theorem LV.good (h : SqT K H a xs) (g : Look xs) : LV K H (.ref a) true := .of h g.ty g.u g.ok
theorem LV.no {n : String} (h : Ty K H x n) (hn : n ≠ "tuple") : LV K H x false := ⟨n, h, fun q => absurd q hn, fun _ => rfl⟩
/-- a good rule -/
structure RuleAt (K : PySem.W.Frag) (H : Hp) (r : Addr) (k : Str) (l m o : Int) (u : Addr) (xs : List V) : Prop where
  r : SqT K H r [.str k, .int l, .int m, .int o, .ref u]
  u : SqT K H u xs
  look : Look xs
  k : k = "" ∨ k = "farm" ∨ k = "way" ∨ k = "pond"
  l0 : 0 ≤ l
  lm : l ≤ m
  m6 : m ≤ 6
  o1 : -8 ≤ o
  o2 : o ≤ 8
def RuleE (K : PySem.W.Frag) (H : Hp) (r : Addr) : Prop := ∃ k l m o u xs, RuleAt K H r k l m o u xs
theorem RuleE.same (e : Same H H') (h : RuleE K H a) : RuleE K H' a := by
  obtain ⟨k, l, m, o, u, xs, h⟩ := h
  exact ⟨k, l, m, o, u, xs, { h with r := tSame e h.r, u := tSame e h.u }⟩
theorem RuleE.but {b : Addr} (e : But s H H') (S : Strm H s b) (h : RuleE K H a) : RuleE K H' a := by
  obtain ⟨k, l, m, o, u, xs, h⟩ := h
  exact ⟨k, l, m, o, u, xs, { h with r := tButS e S h.r, u := tButS e S h.u }⟩
theorem RuleE.put (n : ∃ ys, H D = some (.lst ys)) (h : RuleE K H a) : RuleE K (upd H D o) a := by
  obtain ⟨k, l, m, o', u, xs, h⟩ := h
  exact ⟨k, l, m, o', u, xs, { h with r := tAt n h.r, u := tAt n h.u }⟩
theorem kind_ok {k : Str} (h : k = "" ∨ k = "farm" ∨ k = "way" ∨ k = "pond") : (nameV (.str k) || decide (V.str k = .str "")) = true ∧ k.length ≤ 100 := by
  rcases h with rfl | rfl | rfl | rfl <;> exact ⟨by decide +kernel, by decide +kernel⟩
theorem RuleE.rv (h : RuleE K H a) : RV K H (.ref a) true := by
  obtain ⟨k, l, m, o, u, xs, h⟩ := h
  refine ⟨_, .tup h.r, fun _ => ⟨_, _, rfl, h.r, .inr ⟨_, _, _, _, _, true, rfl, .inr ⟨_, rfl, (kind_ok h.k).2⟩, ⟨_, .int _⟩, ⟨_, .int _⟩, ⟨_, .int _⟩, .good h.u h.look, ?_⟩⟩, fun z => absurd rfl z⟩
  have := h.lm; have := h.l0; have := h.m6
  unfold ruleB
  rw [(kind_ok h.k).1, betB_ok h.l0 (show l ≤ 6 by omega), betB_ok (show 0 ≤ m by omega) h.m6, betB_ok h.o1 h.o2]
  simp [leV, h.lm]
theorem all_get {bs : List Bool} : bs.all id = true ↔ ∀ (i : Nat) c, bs[i]? = some c → c = true := by
  constructor
  · intro h i c e
    exact List.all_eq_true.mp h c (List.mem_of_getElem? e)
  · intro h
    rw [List.all_eq_true]
    intro c hc
    obtain ⟨i, e⟩ := List.getElem?_of_mem hc
    exact h i c e
/-- a tuple of good rules -/
theorem StV.good {rs : List Addr} (h : SqT K H a (rs.map V.ref)) (hr : ∀ r ∈ rs, RuleE K H r) (hl : rs.length ≤ 12) : StV K H (.ref a) true := by
  refine ⟨_, .tup h, fun _ => ⟨_, _, List.replicate rs.length true, rfl, h, by simp; omega, by simp, fun i v c e1 e2 => ?_, ?_⟩, fun z => absurd rfl z⟩
  · rw [List.getElem?_map] at e1
    obtain ⟨r, e3, rfl⟩ := Option.map_eq_some_iff.mp e1
    have : c = true := by
      have := List.mem_of_getElem? e2
      exact List.eq_of_mem_replicate this
    subst this
    exact (hr r (List.mem_of_getElem? e3)).rv
  · have e1 : decide (((rs.map V.ref).length : Int) ≤ 12) = true := decide_eq_true (by simp; omega)
    rw [e1, Bool.true_and]
    exact (List.all_eq_true.mpr fun x hx => List.eq_of_mem_replicate hx).symm
/-- too many -/
theorem StV.many {rs : List Addr} (h : SqT K H a (rs.map V.ref)) (hr : ∀ r ∈ rs, RuleE K H r) (hl : 12 < rs.length) (h2 : rs.length ≤ 1000) : StV K H (.ref a) false := by
  refine ⟨_, .tup h, fun _ => ⟨_, _, List.replicate rs.length true, rfl, h, by simpa using h2, by simp, fun i v c e1 e2 => ?_, ?_⟩, fun z => absurd rfl z⟩
  · rw [List.getElem?_map] at e1
    obtain ⟨r, e3, rfl⟩ := Option.map_eq_some_iff.mp e1
    have : c = true := List.eq_of_mem_replicate (List.mem_of_getElem? e2)
    subst this
    exact (hr r (List.mem_of_getElem? e3)).rv
  · have e1 : decide (((rs.map V.ref).length : Int) ≤ 12) = false := decide_eq_false (by simp; omega)
    rw [e1, Bool.false_and]
/-- one wrong rule -/
theorem StV.bad {us ws : List Addr} {v : V} (h : SqT K H a (us.map V.ref ++ v :: ws.map V.ref)) (hu : ∀ r ∈ us, RuleE K H r) (hv : RV K H v false) (hw : ∀ r ∈ ws, RuleE K H r) (h2 : us.length + ws.length ≤ 900) : StV K H (.ref a) false := by
  refine ⟨_, .tup h, fun _ => ⟨_, _, List.replicate us.length true ++ false :: List.replicate ws.length true, rfl, h, by simp; omega, by simp, fun i v' c e1 e2 => ?_, ?_⟩, fun z => absurd rfl z⟩
  · by_cases q : i < us.length
    · rw [List.getElem?_append_left (by simpa using q), List.getElem?_map] at e1
      rw [List.getElem?_append_left (by simpa using q)] at e2
      obtain ⟨r, e3, rfl⟩ := Option.map_eq_some_iff.mp e1
      have : c = true := List.eq_of_mem_replicate (List.mem_of_getElem? e2)
      subst this
      exact (hu r (List.mem_of_getElem? e3)).rv
    · rw [List.getElem?_append_right (by simp; omega)] at e1 e2
      simp only [List.length_map, List.length_replicate] at e1 e2
      generalize i - us.length = j at e1 e2
      cases j with
      | zero =>
        simp only [List.getElem?_cons_zero, Option.some.injEq] at e1 e2
        subst e1; subst e2
        exact hv
      | succ j =>
        simp only [List.getElem?_cons_succ] at e1 e2
        rw [List.getElem?_map] at e1
        obtain ⟨r, e3, rfl⟩ := Option.map_eq_some_iff.mp e1
        have : c = true := List.eq_of_mem_replicate (List.mem_of_getElem? e2)
        subst this
        exact (hw r (List.mem_of_getElem? e3)).rv
  · have e1 : (List.replicate us.length true ++ false :: List.replicate ws.length true).all id = false := by simp
    rw [e1, Bool.and_false]
theorem RV.bad {k l m o u : V} (h : SqT K H a [k, l, m, o, u]) (hk : k = .non ∨ ∃ s : Str, k = .str s ∧ s.length ≤ 100) (hl : ∃ n, Ty K H l n) (hm : ∃ n, Ty K H m n) (ho : ∃ n, Ty K H o n) (hu : LV K H u c) (e : ruleB k l m o c = false) : RV K H (.ref a) false :=
  ⟨_, .tup h, fun _ => ⟨_, _, rfl, h, .inr ⟨_, _, _, _, _, c, rfl, hk, hl, hm, ho, hu, e.symm⟩⟩, fun z => absurd rfl z⟩
theorem RV.no {n : String} (h : Ty K H x n) (hn : n ≠ "tuple") : RV K H x false := ⟨n, h, fun q => absurd q hn, fun _ => rfl⟩
theorem StV.no {n : String} (h : Ty K H x n) (hn : n ≠ "tuple") : StV K H x false := ⟨n, h, fun q => absurd q hn, fun _ => rfl⟩
theorem StV.same (e : Same H H') (h : StV K H x b) : StV K H' x b := by
  obtain ⟨n, t, h1, h2⟩ := h
  refine ⟨n, t.same e, fun q => ?_, h2⟩
  obtain ⟨a, xs, bs, e1, e2, e3, e4, e5, e6⟩ := h1 q
  exact ⟨a, xs, bs, e1, tSame e e2, e3, e4, fun i v c f1 f2 => (e5 i v c f1 f2).same e, e6⟩
/-! ## values that stay what they are while a stream is drawn -/
/-- scalars -/
def scB : V → Bool
  | .ref _ => false
  | _ => true
theorem sc_ty (h : xs.all (fun v => match v with | .int _ => true | .str _ => true | .bl _ => true | .non => true | _ => false) = true) : ∀ v ∈ xs, ∃ m, Ty K H v m := by
  intro v hv
  have := List.all_eq_true.mp h v hv
  cases v with
  | int i => exact ⟨_, .int i⟩
  | str z => exact ⟨_, .str z⟩
  | bl b => exact ⟨_, .bl b⟩
  | non => exact ⟨_, .non⟩
  | _ => cases this
def PB (R : Hp → V → Prop) (s : Addr) (H : Hp) (v : V) : Prop := ∀ H', But s H H' → R H' v
theorem PB.but {R : Hp → V → Prop} (h : PB R s H v) (e : But s H H') : PB R s H' v := fun H2 e2 => h H2 (e.trans e2)
theorem PB.here {R : Hp → V → Prop} (h : PB R s H v) : R H v := h H But.refl
structure BL (R : Hp → V → Prop) (H0 H : Hp) (s b : Addr) (vs : List V) : Prop where
  S : Strm H s b
  e : But s H0 H
  F : ∀ x ∈ vs, PB R s H x
theorem BL.nil {R : Hp → V → Prop} (S : Strm H s p) : BL R H H s p [] := ⟨S, But.refl, fun _ h => by cases h⟩
theorem BL.go {R : Hp → V → Prop} {H0 : Hp} {vs : List V} (h : BL R H0 H s p vs) (e : But s H H') (S : Strm H' s p) : BL R H0 H' s p vs := ⟨S, h.e.trans e, fun x hx => (h.F x hx).but e⟩
theorem BL.step {R : Hp → V → Prop} {H0 : Hp} {vs : List V} (h : BL R H0 H s p vs) (e : Same H H') (n : PB R s H' v) : BL R H0 H' s p (vs ++ [v]) := ⟨h.S.same e, h.e.then_same e, fun x hx => by
  rcases List.mem_append.mp hx with hx | hx
  · exact (h.F x hx).but (But.of_same e)
  · rw [List.mem_singleton] at hx
    subst hx
    exact n⟩
theorem BL.here {R : Hp → V → Prop} {H0 : Hp} {vs : List V} (h : BL R H0 H s p vs) (n : PB R s H v) : BL R H0 H s p (vs ++ [v]) := h.step (Same.refl _) n
theorem BL.over {R : Hp → V → Prop} {H0 : Hp} {vs : List V} {q : Addr} (h : BL R H0 H s p vs) (z : H q = none) : BL R H0 (upd H q o) s p vs := h.go (But.new z) (h.S.over z)
def LVf (K : PySem.W.Frag) (H : Hp) (v : V) : Prop := LV K H v false
def RVf (K : PySem.W.Frag) (H : Hp) (v : V) : Prop := RV K H v false
theorem lookU_of {z : Str} {r : List V} (h : z = "fill" ∨ z = "stroke" ∨ z = "dot" ∨ z = "paint") : lookU (.str z :: r) := fun s r e => by injection e with e _; injection e with e; subst e; exact h
theorem pbLook (S : Strm H s p) (h : SqT K H a xs) (hs : xs.all (fun v => match v with | .int _ => true | .str _ => true | .bl _ => true | .non => true | _ => false) = true) (hu : lookU xs) (e : lookB xs = false) : PB (LVf K) s H (.ref a) :=
  fun H' q => LV.of (tButS q S h) (sc_ty hs) hu e
theorem pbList {q : Addr} (h : H q = some (.lst xs)) (n : q ≠ s) : PB (LVf K) s H (.ref q) := fun H' e => LV.no (.lst (SqL.of (e.get n h))) (by decide)
theorem pbListR {q : Addr} (h : H q = some (.lst xs)) (n : q ≠ s) : PB (RVf K) s H (.ref q) := fun H' e => RV.no (.lst (SqL.of (e.get n h))) (by decide)
theorem lookB_paint {v : V} {r : List V} : lookB (.str "paint" :: v :: r) = false := by
  match r with
  | [] => show (betB 1 63 v && decide (V.str "paint" = .str "fill")) = false; rw [show decide (V.str "paint" = .str "fill") = false by decide +kernel, Bool.and_false]
  | [x] => show (betB 1 63 v && ((decide (V.str "paint" = .str "stroke") || decide (V.str "paint" = .str "dot")) && _)) = false; rw [show (decide (V.str "paint" = .str "stroke") || decide (V.str "paint" = .str "dot")) = false by decide +kernel, Bool.false_and, Bool.and_false]
  | _ :: _ :: _ => rfl
theorem lookB_w {u v x : V} (h : betB 1 16 x = false) : lookB [u, v, x] = false := by
  show (betB 1 63 v && ((decide _ || decide _) && betB 1 16 x)) = false
  rw [h, Bool.and_false, Bool.and_false]
theorem lookB_f {v x : V} : lookB [.str "fill", v, x] = false := by
  show (betB 1 63 v && ((decide (V.str "fill" = .str "stroke") || decide (V.str "fill" = .str "dot")) && betB 1 16 x)) = false
  rw [show (decide (V.str "fill" = .str "stroke") || decide (V.str "fill" = .str "dot")) = false by decide +kernel, Bool.false_and, Bool.and_false]
theorem lookB_s {v : V} : lookB [.str "stroke", v] = false := by
  show (betB 1 63 v && decide (V.str "stroke" = .str "fill")) = false
  rw [show decide (V.str "stroke" = .str "fill") = false by decide +kernel, Bool.and_false]
theorem ruleB_f {k l m o : V} {c : Bool} (h : (nameV k || decide (k = .str "")) = false ∨ betB 0 6 l = false ∨ betB 0 6 m = false ∨ leV l m = false ∨ betB (-8) 8 o = false ∨ c = false) : ruleB k l m o c = false := by
  unfold ruleB
  rcases h with h | h | h | h | h | h <;> rw [h] <;> simp
theorem pbRule {k l m o u : V} (S : Strm H s p) (h : SqT K H a [k, l, m, o, u]) (hk : k = .non ∨ ∃ s : Str, k = .str s ∧ s.length ≤ 100) (hl : ∀ H, ∃ n, Ty K H l n) (hm : ∀ H, ∃ n, Ty K H m n) (ho : ∀ H, ∃ n, Ty K H o n) (hu : PB (fun H v => LV K H v c) s H u) (e : (nameV k || decide (k = .str "")) = false ∨ betB 0 6 l = false ∨ betB 0 6 m = false ∨ leV l m = false ∨ betB (-8) 8 o = false ∨ c = false) : PB (RVf K) s H (.ref a) :=
  fun H' q => RV.bad (tButS q S h) hk (hl _) (hm _) (ho _) (hu H' q) (ruleB_f e)
theorem pbGood (S : Strm H s p) (h : SqT K H a xs) (g : Look xs) : PB (fun H v => LV K H v true) s H (.ref a) := fun H' q => LV.good (tButS q S h) g
theorem RV.four (h : SqT K H a xs) (e : xs.length ≠ 5) : RV K H (.ref a) false := ⟨_, .tup h, fun _ => ⟨_, _, rfl, h, .inl ⟨e, rfl⟩⟩, fun z => absurd rfl z⟩
theorem cut_take {n : Nat} : cutV xs none (some (n : Int)) = xs.take n := by
  unfold cutV
  rw [show HT.sIx xs.length 0 none = 0 from rfl, HT.sIx_nat, List.drop_zero, Nat.sub_zero]
  rcases Nat.le_total n xs.length with q | q
  · rw [Nat.min_eq_left q]
  · rw [Nat.min_eq_right q, List.take_of_length_le q, List.take_of_length_le (Nat.le_refl _)]
theorem cut_drop {n : Nat} : cutV xs (some (n : Int)) none = xs.drop n := by
  unfold cutV
  rw [show HT.sIx xs.length xs.length none = xs.length from rfl, HT.sIx_nat]
  rcases Nat.le_total n xs.length with q | q
  · rw [Nat.min_eq_left q, List.take_of_length_le (by rw [List.length_drop]; exact Nat.le_refl _)]
  · rw [Nat.min_eq_right q, List.drop_of_length_le q, List.drop_of_length_le (Nat.le_refl _), List.take_nil]
theorem noPart {σ : L2.St} {k : Option Int → Hp → Prop} (h : k none H) : tNoPart σ H k := h
end
end My

namespace My
open PySem L2
/-! the steps of a reading -/
local macro_rules | `(tactic| walk_at "t") => `(tactic| first
  | assumption
  | exact tHere
  | exact lHere
  | (refine tOver (by assumption) ?_; walk_at "t")
  | (refine lOver (by assumption) ?_; walk_at "t")
  | (refine tSame (by assumption) ?_; walk_at "t")
  | (refine tBut (by assumption) (by assumption) ?_; walk_at "t"))
local macro_rules | `(tactic| walk_at "ix") => `(tactic| first | exact at0 | exact at1 | exact at2 | exact at3 | rfl)
local macro_rules | `(tactic| walk_at "r1") => `(tactic| first
  | refine ⟨_, rfl, ?_⟩
  | refine ⟨_, _, rfl, rfl, ?_⟩
  | refine ⟨rfl, ?_⟩
  | refine ⟨_, _, _, _, rfl, rfl, (by walk_at "t"), (by walk_at "ix"), ?_⟩
  | refine ⟨small rfl, ?_⟩)
local macro_rules | `(tactic| walk_at "r") => `(tactic| repeat walk_at "r1")

def top (i : Nat) : Stmt := PySem.Challenge.pw_trueatlas_k58_looks_and_styles.main.body.getD i (.Pass ⟨0, 0, 0, 0⟩)
abbrev s_is_whole : Stmt := (top 4)
abbrev N_is_whole : List Str := ["value"]
theorem sc_is_whole : FnScope N_is_whole ["value"] (defScope s_is_whole) := ⟨rfl, rfl, rfl, by decide +kernel, rfl, by decide +kernel, by decide +kernel⟩

abbrev s_is_between : Stmt := (top 5)
abbrev N_is_between : List Str := ["value", "least", "most"]
theorem sc_is_between : FnScope N_is_between ["value", "least", "most"] (defScope s_is_between) := ⟨rfl, rfl, rfl, by decide +kernel, rfl, by decide +kernel, by decide +kernel⟩

abbrev s_is_name : Stmt := (top 6)
abbrev N_is_name : List Str := ["value", "one"]
theorem sc_is_name : FnScope N_is_name ["value"] (defScope s_is_name) := ⟨rfl, rfl, rfl, by decide +kernel, rfl, by decide +kernel, by decide +kernel⟩

abbrev s_is_scale : Stmt := (top 14)
abbrev N_is_scale : List Str := ["value"]
theorem sc_is_scale : FnScope N_is_scale ["value"] (defScope s_is_scale) := ⟨rfl, rfl, rfl, by decide +kernel, rfl, by decide +kernel, by decide +kernel⟩

abbrev s_is_look : Stmt := (top 15)
abbrev N_is_look : List Str := ["value"]
theorem sc_is_look : FnScope N_is_look ["value"] (defScope s_is_look) := ⟨rfl, rfl, rfl, by decide +kernel, rfl, by decide +kernel, by decide +kernel⟩

abbrev s_is_rule : Stmt := (top 16)
abbrev N_is_rule : List Str := ["value", "kind", "least", "most", "order", "look"]
theorem sc_is_rule : FnScope N_is_rule ["value"] (defScope s_is_rule) := ⟨rfl, rfl, rfl, by decide +kernel, rfl, by decide +kernel, by decide +kernel⟩

abbrev s_is_style : Stmt := (top 17)
abbrev N_is_style : List Str := ["value", "rule"]
theorem sc_is_style : FnScope N_is_style ["value"] (defScope s_is_style) := ⟨rfl, rfl, rfl, by decide +kernel, rfl, by decide +kernel, by decide +kernel⟩

abbrev s__law_stream : Stmt := (top 19)
abbrev N__law_stream : List Str := ["script"]
theorem sc__law_stream : FnScope N__law_stream ["script"] (defScope s__law_stream) := ⟨rfl, rfl, rfl, by decide +kernel, rfl, by decide +kernel, by decide +kernel⟩

abbrev s__law_next : Stmt := (top 20)
abbrev N__law_next : List Str := ["stream", "many", "k", "cell", "digit"]
theorem sc__law_next : FnScope N__law_next ["stream", "many"] (defScope s__law_next) := ⟨rfl, rfl, rfl, by decide +kernel, rfl, by decide +kernel, by decide +kernel⟩

abbrev s__law_look : Stmt := (top 25)
abbrev N__law_look : List Str := ["stream", "pick", "colour"]
theorem sc__law_look : FnScope N__law_look ["stream"] (defScope s__law_look) := ⟨rfl, rfl, rfl, by decide +kernel, rfl, by decide +kernel, by decide +kernel⟩

abbrev s__law_style : Stmt := (top 26)
abbrev N__law_style : List Str := ["stream", "least", "rules", "k", "low", "kind", "order"]
theorem sc__law_style : FnScope N__law_style ["stream", "least"] (defScope s__law_style) := ⟨rfl, rfl, rfl, by decide +kernel, rfl, by decide +kernel, by decide +kernel⟩

abbrev s__law_bad_look : Stmt := (top 27)
abbrev N__law_bad_look : List Str := ["stream", "look", "rows"]
theorem sc__law_bad_look : FnScope N__law_bad_look ["stream", "look"] (defScope s__law_bad_look) := ⟨rfl, rfl, rfl, by decide +kernel, rfl, by decide +kernel, by decide +kernel⟩

abbrev s__law_bad_style : Stmt := (top 28)
abbrev N__law_bad_style : List Str := ["stream", "style", "at", "kind", "least", "most", "order", "look", "rows", "pick"]
theorem sc__law_bad_style : FnScope N__law_bad_style ["stream", "style"] (defScope s__law_bad_style) := ⟨rfl, rfl, rfl, by decide +kernel, rfl, by decide +kernel, by decide +kernel⟩

abbrev s_law : Stmt := (top 29)
abbrev N_law : List Str := ["script", "stream", "look", "style"]
theorem sc_law : FnScope N_law ["script"] (defScope s_law) := ⟨rfl, rfl, rfl, by decide +kernel, rfl, by decide +kernel, by decide +kernel⟩

structure Txt (K : PySem.W.Frag) (mg : Str → Option Value) where
  a_is_whole : Addr
  d_is_whole : FuncData
  F_is_whole : Fun K "is_whole" "is_whole" s_is_whole a_is_whole d_is_whole
  m_is_whole : mg "is_whole" = some (.ref a_is_whole)
  b_is_whole : Binds K d_is_whole ["value"] []
  a_is_between : Addr
  d_is_between : FuncData
  F_is_between : Fun K "is_between" "is_between" s_is_between a_is_between d_is_between
  m_is_between : mg "is_between" = some (.ref a_is_between)
  b_is_between : Binds K d_is_between ["value", "least", "most"] []
  a_is_name : Addr
  d_is_name : FuncData
  cc_is_name : Addr
  P_is_name : Addr
  F_is_name : FunT K "is_name" "is_name" s_is_name a_is_name d_is_name cc_is_name
  m_is_name : mg "is_name" = some (.ref a_is_name)
  b_is_name : Binds K d_is_name ["value"] []
  a_is_scale : Addr
  d_is_scale : FuncData
  F_is_scale : Fun K "is_scale" "is_scale" s_is_scale a_is_scale d_is_scale
  m_is_scale : mg "is_scale" = some (.ref a_is_scale)
  b_is_scale : Binds K d_is_scale ["value"] []
  a_is_look : Addr
  d_is_look : FuncData
  F_is_look : Fun K "is_look" "is_look" s_is_look a_is_look d_is_look
  m_is_look : mg "is_look" = some (.ref a_is_look)
  b_is_look : Binds K d_is_look ["value"] []
  a_is_rule : Addr
  d_is_rule : FuncData
  F_is_rule : Fun K "is_rule" "is_rule" s_is_rule a_is_rule d_is_rule
  m_is_rule : mg "is_rule" = some (.ref a_is_rule)
  b_is_rule : Binds K d_is_rule ["value"] []
  a_is_style : Addr
  d_is_style : FuncData
  cc_is_style : Addr
  P_is_style : Addr
  F_is_style : FunT K "is_style" "is_style" s_is_style a_is_style d_is_style cc_is_style
  m_is_style : mg "is_style" = some (.ref a_is_style)
  b_is_style : Binds K d_is_style ["value"] []
  a__law_stream : Addr
  d__law_stream : FuncData
  F__law_stream : Fun K "_law_stream" "_law_stream" s__law_stream a__law_stream d__law_stream
  m__law_stream : mg "_law_stream" = some (.ref a__law_stream)
  b__law_stream : Binds K d__law_stream ["script"] []
  a__law_next : Addr
  d__law_next : FuncData
  F__law_next : Fun K "_law_next" "_law_next" s__law_next a__law_next d__law_next
  m__law_next : mg "_law_next" = some (.ref a__law_next)
  b__law_next : Binds K d__law_next ["stream", "many"] []
  a__law_look : Addr
  d__law_look : FuncData
  F__law_look : Fun K "_law_look" "_law_look" s__law_look a__law_look d__law_look
  m__law_look : mg "_law_look" = some (.ref a__law_look)
  b__law_look : Binds K d__law_look ["stream"] []
  a__law_style : Addr
  d__law_style : FuncData
  F__law_style : Fun K "_law_style" "_law_style" s__law_style a__law_style d__law_style
  m__law_style : mg "_law_style" = some (.ref a__law_style)
  b__law_style : Binds K d__law_style ["stream", "least"] []
  a__law_bad_look : Addr
  d__law_bad_look : FuncData
  F__law_bad_look : Fun K "_law_bad_look" "_law_bad_look" s__law_bad_look a__law_bad_look d__law_bad_look
  m__law_bad_look : mg "_law_bad_look" = some (.ref a__law_bad_look)
  b__law_bad_look : Binds K d__law_bad_look ["stream", "look"] []
  a__law_bad_style : Addr
  d__law_bad_style : FuncData
  F__law_bad_style : Fun K "_law_bad_style" "_law_bad_style" s__law_bad_style a__law_bad_style d__law_bad_style
  m__law_bad_style : mg "_law_bad_style" = some (.ref a__law_bad_style)
  b__law_bad_style : Binds K d__law_bad_style ["stream", "style"] []
  a_law : Addr
  d_law : FuncData
  F_law : Fun K "law" "law" s_law a_law d_law
  m_law : mg "law" = some (.ref a_law)
  b_law : Binds K d_law ["script"] []
  n_abs : mg "abs" = none
  n_all : mg "all" = none
  n_bool : mg "bool" = none
  n_int : mg "int" = none
  n_isinstance : mg "isinstance" = none
  n_len : mg "len" = none
  n_list : mg "list" = none
  n_min : mg "min" = none
  n_range : mg "range" = none
  n_str : mg "str" = none
  n_tuple : mg "tuple" = none
  c_DIGITS : ∃ t, mg "DIGITS" = some (.str "0123456789" t)
  c_HIGHEST_SCALE : ∃ t, mg "HIGHEST_SCALE" = some (.int (6) t)
  c_LETTERS : ∃ t, mg "LETTERS" = some (.str "abcdefghijklmnopqrstuvwxyz" t)
  c_MOST_COLOUR : ∃ t, mg "MOST_COLOUR" = some (.int (63) t)
  c_MOST_OF_NAME : ∃ t, mg "MOST_OF_NAME" = some (.int (12) t)
  c_MOST_ORDER : ∃ t, mg "MOST_ORDER" = some (.int (8) t)
  c_MOST_RULES : ∃ t, mg "MOST_RULES" = some (.int (12) t)
  c_MOST_WIDTH : ∃ t, mg "MOST_WIDTH" = some (.int (16) t)
  a_FITS : Addr
  es_FITS : Array DictEntry
  n_FITS : Nat
  g_FITS : mg "FITS" = some (.ref a_FITS)
  q_fill : ∃ u, PySem.W.nsIn K a_FITS "fill" = some (some u)
  q_stroke : ∃ u, PySem.W.nsIn K a_FITS "stroke" = some (some u)
  q_dot : ∃ u, PySem.W.nsIn K a_FITS "dot" = some (some u)
  q_paint : PySem.W.nsIn K a_FITS "paint" = some none
/-- the tables of the defs that hold generator expressions -/
def Txt.ts {K : PySem.W.Frag} {mg : Str → Option Value} (T : Txt K mg) : List Addr := [T.P_is_name, T.P_is_style]
structure TxtB {K : PySem.W.Frag} {mg : Str → Option Value} (T : Txt K mg) (base : Heap) (w : World) : Prop where
  t_is_name : GxR.TabB base mg T.cc_is_name T.P_is_name
  t_is_style : GxR.TabB base mg T.cc_is_style T.P_is_style
  kd : KDict K w T.a_FITS T.es_FITS T.n_FITS

section
variable {P : Program} {w : World} {K : PySem.W.Frag} {mg : Str → Option Value} {base : Heap}


theorem ok_is_whole (T : Txt K mg) (TB : TxtB T base w) : FnOk P w K mg base CX0 1 T.a_is_whole T.d_is_whole ["value"] (fun vs H Q _ => ∃ x n, vs = [x] ∧ Ty K H x n ∧ Q (.bl (n == "int")) H) := by
  refine T.F_is_whole.ok sc_is_whole (fun vs H Q E h => ?_) (fun cdv A outer s H vs Q E hr h => ?_)
  · obtain ⟨x, n, rfl, hx, k⟩ := h
    rfl
  · obtain ⟨x, n, rfl, hx, k⟩ := h
    refine ⟨_, (pss_one (ps_ret (pe_and (pe_callB call_isi (by rfl) T.n_isinstance (by decide +kernel) (pa_cons (pv 0) (pa_cons (pe_bltn (v := .ty "int") (by rfl) T.n_int (by decide +kernel) rfl) pa_nil))) (pe_one (pe_not (pe_callB call_isi (by rfl) T.n_isinstance (by decide +kernel) (pa_cons (pv 0) (pa_cons (pe_bltn (v := .ty "bool") (by rfl) T.n_bool (by decide +kernel) rfl) pa_nil)))))))), ?_⟩
    refine ⟨_, rfl, ⟨_, _, _, _, _, rfl, .ty _, (hx).x, isaN (Ty.six hx) (by simp [My.six]), ⟨_, rfl, ?_⟩⟩⟩
    cases hx
    all_goals first | (refine ifTr (by decide) ?_) | (refine ifFa (by decide) ?_; exact k)
    · exact ⟨_, rfl, ⟨_, _, _, _, _, rfl, .ty _, ((Ty.bl _)).x, isaN (by simp [My.six]) (by simp [My.six]), ⟨_, rfl, k⟩⟩⟩
    · exact ⟨_, rfl, ⟨_, _, _, _, _, rfl, .ty _, ((Ty.int _)).x, isaN (by simp [My.six]) (by simp [My.six]), ⟨_, rfl, k⟩⟩⟩

theorem ok_is_between (T : Txt K mg) (TB : TxtB T base w) : FnOk P w K mg base CX0 2 T.a_is_between T.d_is_between ["value", "least", "most"] (fun vs H Q _ => ∃ x n lo hi, vs = [x, .int lo, .int hi] ∧ Ty K H x n ∧ Q (.bl (betB lo hi x)) H) := by
  refine T.F_is_between.ok sc_is_between (fun vs H Q E h => ?_) (fun cdv A outer s H vs Q E hr h => ?_)
  · obtain ⟨x, n, lo, hi, rfl, hx, k⟩ := h
    rfl
  · obtain ⟨x, n, lo, hi, rfl, hx, k⟩ := h
    refine ⟨_, (pss_one (ps_ret (pe_and (pe_call (ok_is_whole T TB) (hr.mono (by omega)) rfl T.m_is_whole T.F_is_whole.kp T.b_is_whole .nil pass0 (pa_cons (pv 0) pa_nil)) (pe_one (pe_chain op_le op_le (pv 1) (pv 0) (pv 2)))))), ?_⟩
    refine ⟨_, rfl, _, _, rfl, hx, ⟨_, rfl, ?_⟩⟩
    cases hx
    all_goals first | (refine ifTr (by decide) ?_) | (refine ifFa (by decide) ?_; exact k)
    rename_i i
    have k : Q (.bl (decide (lo ≤ i) && decide (i ≤ hi))) H := k
    refine ⟨_, rfl, _, rfl, _, _, rfl, rfl, ⟨_, rfl, ?_⟩⟩
    refine ifB (fun e => ?_) (fun e => ?_)
    · refine ⟨_, rfl, _, _, rfl, rfl, ?_⟩
      rw [e, Bool.true_and] at k
      exact k
    · rw [e, Bool.false_and] at k
      exact k

theorem ok_is_name (T : Txt K mg) (TB : TxtB T base w) : FnOk P w K mg base CX0 4 T.a_is_name T.d_is_name ["value"] (fun vs H Q _ => ∃ x n, vs = [x] ∧ Ty K H x n ∧ Tbs T.ts H ∧ (∀ s, x = .str s → s.length ≤ 100) ∧ ∀ H', Same H H' → Q (.bl (nameV x)) H') := by
  refine T.F_is_name.ok sc_is_name (fun vs H Q E h => ?_) (fun A outer s H vs Q E hr h => ?_)
  · obtain ⟨x, n, rfl, hx, tb, hl, k⟩ := h
    rfl
  · obtain ⟨x, n, rfl, hx, tb, hl, k⟩ := h
    refine ⟨_, (pss_cons (ps_if (PW.pt (pw_or (pt_not (pt_val (pe_callB call_isi (by rfl) T.n_isinstance (by decide +kernel) (pa_cons (pv 0) (pa_cons (pe_bltn (v := .ty "str") (by rfl) T.n_str (by decide +kernel) rfl) pa_nil))))) (pw_or1 (pt_not (pt_chain op_le op_le pe_int (pe_callB call_len_str (by rfl) T.n_len (by decide +kernel) (pa_cons (pv 0) pa_nil)) (pe_gI T.c_MOST_OF_NAME))))))
        (pss_one (ps_ret pe_bl))
        pss_nil)
      (pss_one (ps_ret (pe_and (pe_cmpR op_in_sign (pe_ix (r := rIxS) ix_str (pv 0) pe_int (fun _ _ => rfl)) (pe_gS T.c_LETTERS) (by rfl)) (pe_one (Gx.pe_gen false (own := [("one", 1)]) (g := gName 1) (tt := tYes) (x := "one") (k := 0) rfl (hr.mono (by omega)) rfl sc_is_name.nd rfl T.n_all TB.t_is_name rfl (Gx.genS_by rfl rfl (by decide +kernel) rfl rfl (by rfl)) (blkOk_by (own := [("one", 1)]) (N := N_is_name) (sc := defScope s_is_name) (by decide +kernel)) (pi_str (pv 0)) (fun _ _ _ _ _ _ _ hB => (pg_name (i := 1) sc_is_name.nd rfl (Or.inl rfl))) (fun _ _ _ _ _ _ _ hB => pts_nil) (fun _ _ _ _ _ _ _ hB => (pe_or (pe_cmpR op_in_sign (pv 1) (pe_gS T.c_LETTERS) (by rfl)) (pe_one (pe_cmpR op_in_sign (pv 1) (pe_gS T.c_DIGITS) (by rfl))))) (fun _ => rfl))))))), ?_⟩
    refine ⟨_, rfl, _, _, _, _, _, rfl, .ty _, hx.x, isaN hx.six (by simp [My.six]), _, rfl, ?_⟩
    cases hx
    all_goals first | (refine ifTr (by decide) (iteT ?_); exact k _ (Same.refl _)) | refine ifFa (by decide) ?_
    rename_i z
    have hz := hl z rfl
    refine ⟨_, rfl, _, rfl, Nat.le_trans hz (by decide), _, _, rfl, rfl, _, rfl, ?_⟩
    have kf : nameB z = false → Q (.bl false) H := fun e => by
      have := k _ (Same.refl _)
      rw [show nameV (.str z) = nameB z from rfl, e] at this
      exact this
    refine ifB (fun e1 => ⟨_, _, rfl, rfl, _, rfl, ?_⟩) (fun e1 => ⟨_, rfl, ?_⟩)
    rotate_left
    · refine ifTr (by rfl) (kf ?_)
      unfold nameB
      rw [e1, Bool.false_and, Bool.false_and]
    refine ifB (fun e2 => ?_) (fun e2 => ?_)
    · refine kf ?_
      unfold nameB
      rw [Bool.not_eq_true'] at e2
      rw [e2, Bool.and_false, Bool.false_and]
    rw [Bool.not_eq_false'] at e2
    have kr : ∀ H', Same H H' → Q (.bl (headB z.cps.toList && z.cps.toList.all fun c => decide (c ∈ LET) || decide (c ∈ DIG))) H' := fun H' e => by
      have := k H' e
      rw [show nameV (.str z) = nameB z from rfl] at this
      unfold nameB at this
      rw [e1, e2, Bool.true_and, Bool.true_and] at this
      exact this
    have pos : 1 ≤ z.length := by have := of_decide_eq_true e1; omega
    have zz : z.length = z.cps.toList.length := by rw [Array.length_toList]; rfl
    obtain ⟨c0, r0, ez⟩ : ∃ c r, z.cps.toList = c :: r := by
      cases q : z.cps.toList with
      | nil => rw [q] at zz; simp at zz; omega
      | cons c r => exact ⟨c, r, rfl⟩
    refine ⟨_, rfl, _, _, _, rfl, rfl, Nat.le_trans hz (by decide), by rw [ez]; exact at0, _, _, rfl, rfl, _, rfl, ?_⟩
    refine ifB (fun e3 => ?_) (fun e3 => ?_)
    rotate_left
    · have := kr _ (Same.refl _)
      rw [ez, show headB (c0 :: r0) = decide (c0 ∈ LET) from rfl] at this
      rw [show decide (c0 ∈ LET) = false from e3, Bool.false_and] at this
      exact this
    have kq : ∀ H', Same H H' → Q (.bl (z.cps.toList.all fun c => decide (c ∈ LET) || decide (c ∈ DIG))) H' := fun H' e => by
      have := kr H' e
      rw [ez, show headB (c0 :: r0) = decide (c0 ∈ LET) from rfl, show decide (c0 ∈ LET) = true from e3, Bool.true_and, ← ez] at this
      exact this
    refine ⟨_, rfl, _, rfl, tb _ (by simp [Txt.ts]), fun H2 g2 => ?_⟩
    have s2 := same_tab (tb _ (by simp [Txt.ts])) g2
    refine Gx.gen_walk walk_str (fun i H' => H' = H2 ∧ ∀ j c, j < i → z.cps.toList[j]? = some c → (decide (c ∈ LET) || decide (c ∈ DIG)) = true) ⟨rfl, fun j c h => absurd h (Nat.not_lt_zero _)⟩ (fun _ _ _ => trivial) ?_ ?_
    · rintro i x H3 H4 hi ⟨rfl, ha⟩ ⟨rfl, c, hc, rfl⟩
      have hc : z.cps.toList[i]? = some c := by rw [Array.getElem?_toList]; exact hc
      refine ⟨rfl, yesI ?_⟩
      refine iteT ?_
      have fin : ∀ b, b = (decide (c ∈ LET) || decide (c ∈ DIG)) → ∃ c, V.bl b = .bl c ∧ if c = false then Q (.bl false) H4 else H4 = H4 ∧ ∀ j c, j < i + 1 → z.cps.toList[j]? = some c → (decide (c ∈ LET) || decide (c ∈ DIG)) = true := by
        intro b e
        refine ⟨b, rfl, ?_⟩
        cases b with
        | false =>
          refine (if_pos rfl).mpr ?_
          have := kq _ s2
          rw [show (z.cps.toList.all fun c => decide (c ∈ LET) || decide (c ∈ DIG)) = false from ?_] at this
          · exact this
          · rw [List.all_eq_false]
            exact ⟨c, List.mem_of_getElem? hc, by rw [← e]; decide⟩
        | true =>
          rw [if_neg (by decide)]
          refine ⟨rfl, fun j d hj hd => ?_⟩
          by_cases q : j = i
          · subst q
            rw [hc] at hd
            cases hd
            exact e.symm
          · exact ha j d (by omega) hd
      refine ⟨_, rfl, _, _, rfl, rfl, _, rfl, ifB (fun e => ?_) (fun e => ?_)⟩
      · refine fin true ?_
        rw [show decide (c ∈ LET) = true from e, Bool.true_or]
      · refine ⟨_, rfl, _, _, rfl, rfl, ?_⟩
        refine fin _ ?_
        rw [show decide (c ∈ LET) = false from e, Bool.false_or]
        rfl
    · rintro H3 ⟨rfl, ha⟩
      have := kq _ s2
      rw [show (z.cps.toList.all fun c => decide (c ∈ LET) || decide (c ∈ DIG)) = true from ?_] at this
      · exact this
      · rw [List.all_eq_true]
        intro c hc
        obtain ⟨j, hj⟩ := List.getElem?_of_mem hc
        exact ha j c (by rw [← Array.length_toList]; exact (List.getElem?_eq_some_iff.mp hj).1) hj

theorem ok_is_scale (T : Txt K mg) (TB : TxtB T base w) : FnOk P w K mg base CX0 3 T.a_is_scale T.d_is_scale ["value"] (fun vs H Q _ => ∃ x n, vs = [x] ∧ Ty K H x n ∧ Q (.bl (betB 0 6 x)) H) := by
  refine T.F_is_scale.ok sc_is_scale (fun vs H Q E h => ?_) (fun cdv A outer s H vs Q E hr h => ?_)
  · obtain ⟨x, n, rfl, hx, k⟩ := h
    rfl
  · obtain ⟨x, n, rfl, hx, k⟩ := h
    refine ⟨_, (pss_one (ps_ret (pe_call (ok_is_between T TB) (hr.mono (by omega)) rfl T.m_is_between T.F_is_between.kp T.b_is_between .nil pass0 (pa_cons (pv 0) (pa_cons pe_int (pa_cons (pe_gI T.c_HIGHEST_SCALE) pa_nil)))))), ?_⟩
    exact ⟨_, rfl, _, _, _, _, rfl, hx, k⟩

theorem ok_is_look (T : Txt K mg) (TB : TxtB T base w) : FnOk P w K mg base CX0 3 T.a_is_look T.d_is_look ["value"] (fun vs H Q _ => ∃ x b, vs = [x] ∧ LV K H x b ∧ Q (.bl b) H) := by
  refine T.F_is_look.ok sc_is_look (fun vs H Q E h => ?_) (fun cdv A outer s H vs Q E hr h => ?_)
  · obtain ⟨x, b, rfl, ⟨n, hx, h1, h2⟩, k⟩ := h
    rfl
  · obtain ⟨x, b, rfl, ⟨n, hx, h1, h2⟩, k⟩ := h
    refine ⟨_, (pss_cons (ps_if (PW.pt (pw_or (pt_not (pt_val (pe_callB call_isi (by rfl) T.n_isinstance (by decide +kernel) (pa_cons (pv 0) (pa_cons (pe_bltn (v := .ty "tuple") (by rfl) T.n_tuple (by decide +kernel) rfl) pa_nil))))) (pw_or (pt_cmpR op_lt (pe_callB call_len (by rfl) T.n_len (by decide +kernel) (pa_cons (pv 0) pa_nil)) pe_int (nomark _)) (pw_or1 (pt_not (pt_val (pe_call (ok_is_between T TB) (hr.mono (by omega)) rfl T.m_is_between T.F_is_between.kp T.b_is_between .nil pass0 (pa_cons (pe_ix (r := rIxT K) ix_tup (pv 0) pe_int (fun _ _ => rfl)) (pa_cons pe_int (pa_cons (pe_gI T.c_MOST_COLOUR) pa_nil))))))))))
        (pss_one (ps_ret pe_bl))
        pss_nil)
      (pss_cons (ps_if (PW.pt (pw_or (pt_not (pt_val (pe_callB call_isi (by rfl) T.n_isinstance (by decide +kernel) (pa_cons (pe_ix (r := rIxT K) ix_tup (pv 0) pe_int (fun _ _ => rfl)) (pa_cons (pe_bltn (v := .ty "str") (by rfl) T.n_str (by decide +kernel) rfl) pa_nil))))) (pw_or1 (pt_cmpR (op_notIn_kd TB.kd) (pe_ix (r := rIxT K) ix_tup (pv 0) pe_int (fun _ _ => rfl)) (pe_glob (v := .ref T.a_FITS) (by rfl) T.g_FITS rfl) (by rfl)))))
        (pss_one (ps_ret pe_bl))
        pss_nil)
      (pss_cons (ps_if (pt_cmpR op_eq (pe_ix (r := rIxT K) ix_tup (pv 0) pe_int (fun _ _ => rfl)) pe_str (nomark _))
        (pss_one (ps_ret (pe_cmpR op_eq (pe_callB call_len (by rfl) T.n_len (by decide +kernel) (pa_cons (pv 0) pa_nil)) pe_int (nomark _))))
        pss_nil)
      (pss_one (ps_ret (pe_and (pe_cmpR op_eq (pe_callB call_len (by rfl) T.n_len (by decide +kernel) (pa_cons (pv 0) pa_nil)) pe_int (nomark _)) (pe_one (pe_call (ok_is_between T TB) (hr.mono (by omega)) rfl T.m_is_between T.F_is_between.kp T.b_is_between .nil pass0 (pa_cons (pe_ix (r := rIxT K) ix_tup (pv 0) pe_int (fun _ _ => rfl)) (pa_cons pe_int (pa_cons (pe_gI T.c_MOST_WIDTH) pa_nil))))))))))), ?_⟩
    refine ⟨_, rfl, _, _, _, _, _, rfl, .ty _, hx.x, isaN hx.six (by simp [My.six]), _, rfl, ?_⟩
    by_cases e : n = "tuple"
    rotate_left
    · rw [h2 e] at k
      refine ifTr ?_ k
      cases hx <;> first | rfl | exact absurd rfl e
    subst e
    refine ifFa (by decide) ?_
    obtain ⟨a, xs, rfl, ht, hm, hu, rfl⟩ := h1 rfl
    refine ⟨_, rfl, _, _, rfl, .inr ⟨_, ht, rfl⟩, _, _, rfl, rfl, _, rfl, ?_⟩
    match xs, ht, hm, hu, k with
    | [], _, _, _, k => exact ifTr (by decide) k
    | [_], _, _, _, k => exact ifTr (by rfl) k
    | u :: v :: r, ht, hm, hu, k =>
      have two : ∀ {α : Type} {a b : α} {r : List α}, atI (a :: b :: r) 1 = some b := at1
      refine ifFa (decide_eq_false (by simp only [List.length_cons]; omega)) ?_
      obtain ⟨mu, tu⟩ := hm u (by simp)
      obtain ⟨mv, tv⟩ := hm v (by simp)
      have kf : lookB (u :: v :: r) = false → Q (.bl false) H := fun e => by rw [e] at k; exact k
      refine ⟨_, rfl, _, _, _, _, rfl, rfl, ht, at1, _, _, _, _, rfl, tv, _, rfl, ?_⟩
      refine ifB (fun e1 => ?_) (fun e1 => ?_)
      · rw [Bool.not_eq_true'] at e1
        exact kf (lookB_c e1)
      rw [Bool.not_eq_false'] at e1
      refine ⟨_, rfl, _, _, _, _, rfl, rfl, ht, at0, _, _, _, _, _, rfl, .ty _, tu.x, isaN tu.six (by simp [My.six]), _, rfl, ?_⟩
      cases tu
      all_goals first | (refine ifTr (by decide) ?_; exact kf (lookB_ns fun s z => by cases z)) | refine ifFa (by decide) ?_
      rename_i z
      by_cases hz : z = "stroke" ∨ z = "dot"
      · have hq : ∃ q, PySem.W.nsIn K T.a_FITS z = some (some q) := by
          rcases hz with rfl | rfl
          · exact T.q_stroke
          · exact T.q_dot
        obtain ⟨q, hq⟩ := hq
        refine ⟨_, rfl, _, _, _, _, rfl, rfl, ht, at0, _, _, rfl, rfl, hq, _, rfl, ?_⟩
        refine ifFa rfl ?_
        refine ⟨_, rfl, _, _, _, _, rfl, rfl, ht, at0, rfl, _, rfl, ?_⟩
        refine ifFa (by rcases hz with rfl | rfl <;> decide +kernel) ?_
        refine ⟨_, rfl, _, _, rfl, .inr ⟨_, ht, rfl⟩, rfl, _, rfl, ?_⟩
        match r, ht, k, kf with
        | [], ht, k, kf =>
          refine ifFa (by rfl) (kf ?_)
          show (betB 1 63 v && decide (V.str z = .str "fill")) = false
          rw [show decide (V.str z = .str "fill") = false by rcases hz with rfl | rfl <;> decide +kernel, Bool.and_false]
        | [x], ht, k, kf =>
          refine ifTr (by rfl) ?_
          obtain ⟨mx, tx⟩ := hm x (by simp)
          refine ⟨_, rfl, _, _, _, _, rfl, rfl, ht, at2, _, _, _, _, rfl, tx, ?_⟩
          have e2 : lookB [.str z, v, x] = betB 1 16 x := by
            show (betB 1 63 v && ((decide (V.str z = .str "stroke") || decide (V.str z = .str "dot")) && betB 1 16 x)) = _
            rw [e1, show (decide (V.str z = .str "stroke") || decide (V.str z = .str "dot")) = true by rcases hz with rfl | rfl <;> decide +kernel, Bool.true_and, Bool.true_and]
          rw [e2] at k
          exact k
        | _ :: _ :: r', ht, k, kf =>
          exact ifFa (decide_eq_false fun z => by injection z with z; simp only [List.length_cons] at z; omega) (kf rfl)
      rcases hu z _ rfl with rfl | rfl | rfl | rfl
      · obtain ⟨q, hq⟩ := T.q_fill
        refine ⟨_, rfl, _, _, _, _, rfl, rfl, ht, at0, _, _, rfl, rfl, hq, _, rfl, ?_⟩
        refine ifFa rfl ?_
        refine ⟨_, rfl, _, _, _, _, rfl, rfl, ht, at0, rfl, _, rfl, ?_⟩
        refine ifTr (by decide +kernel) ?_
        refine ⟨_, rfl, _, _, rfl, .inr ⟨_, ht, rfl⟩, rfl, ?_⟩
        match r, ht, k, kf with
        | [], ht, k, kf =>
          have e2 : lookB [.str "fill", v] = true := by
            show (betB 1 63 v && _) = true
            rw [e1]; rfl
          rw [e2] at k
          exact k
        | [x], ht, k, kf =>
          refine kf ?_
          show (betB 1 63 v && ((decide (V.str "fill" = .str "stroke") || decide (V.str "fill" = .str "dot")) && betB 1 16 x)) = false
          rw [show (decide (V.str "fill" = .str "stroke") || decide (V.str "fill" = .str "dot")) = false by decide +kernel, Bool.false_and, Bool.and_false]
        | y1 :: y2 :: r', ht, k, kf =>
          have : decide (V.int (((V.str "fill" :: v :: y1 :: y2 :: r' : List V).length : Nat) : Int) = V.int 2) = false := decide_eq_false fun z => by injection z with z; simp only [List.length_cons] at z; omega
          rw [this]
          exact kf rfl
      · exact absurd (.inl rfl) hz
      · exact absurd (.inr rfl) hz
      · refine ⟨_, rfl, _, _, _, _, rfl, rfl, ht, at0, _, _, rfl, rfl, T.q_paint, _, rfl, ?_⟩
        refine ifTr rfl (kf ?_)
        match r with
        | [] => show (betB 1 63 v && decide (V.str "paint" = .str "fill")) = false; rw [show decide (V.str "paint" = .str "fill") = false by decide +kernel, Bool.and_false]
        | [x] => show (betB 1 63 v && ((decide (V.str "paint" = .str "stroke") || decide (V.str "paint" = .str "dot")) && _)) = false; rw [show (decide (V.str "paint" = .str "stroke") || decide (V.str "paint" = .str "dot")) = false by decide +kernel, Bool.false_and, Bool.and_false]
        | _ :: _ :: _ => rfl

theorem ok_is_rule (T : Txt K mg) (TB : TxtB T base w) : FnOk P w K mg base CX0 5 T.a_is_rule T.d_is_rule ["value"] (fun vs H Q _ => ∃ x b, vs = [x] ∧ RV K H x b ∧ Tbs T.ts H ∧ ∀ H', Same H H' → Q (.bl b) H') := by
  refine T.F_is_rule.ok sc_is_rule (fun vs H Q E h => ?_) (fun cdv A outer s H vs Q E hr h => ?_)
  · obtain ⟨x, b, rfl, ⟨n, hx, h1, h2⟩, tb, k⟩ := h
    rfl
  · obtain ⟨x, b, rfl, ⟨n, hx, h1, h2⟩, tb, k⟩ := h
    refine ⟨_, (pss_cons (ps_if (PW.pt (pw_or (pt_not (pt_val (pe_callB call_isi (by rfl) T.n_isinstance (by decide +kernel) (pa_cons (pv 0) (pa_cons (pe_bltn (v := .ty "tuple") (by rfl) T.n_tuple (by decide +kernel) rfl) pa_nil))))) (pw_or1 (pt_cmpR op_ne (pe_callB call_len (by rfl) T.n_len (by decide +kernel) (pa_cons (pv 0) pa_nil)) pe_int (nomark _)))))
        (pss_one (ps_ret pe_bl))
        pss_nil)
      (pss_cons (ps_asg (pv 0) (pg_tup (by rfl) (pgs_cons (pg_name (i := 1) sc_is_rule.nd rfl (Or.inl rfl)) (pgs_cons (pg_name (i := 2) sc_is_rule.nd rfl (Or.inl rfl)) (pgs_cons (pg_name (i := 3) sc_is_rule.nd rfl (Or.inl rfl)) (pgs_cons (pg_name (i := 4) sc_is_rule.nd rfl (Or.inl rfl)) (pgs_cons (pg_name (i := 5) sc_is_rule.nd rfl (Or.inl rfl)) pgs_nil)))))))
      (pss_cons (ps_if (PW.pt (pw_and (pt_not (pt_val (pe_call (ok_is_name T TB) (hr.mono (by omega)) rfl T.m_is_name T.F_is_name.kp T.b_is_name .nil pass0 (pa_cons (pv 1) pa_nil)))) (pw_and1 (pt_cmpR op_ne (pv 1) pe_str (nomark _)))))
        (pss_one (ps_ret pe_bl))
        pss_nil)
      (pss_cons (ps_if (PW.pt (pw_or (pt_not (pt_val (pe_call (ok_is_scale T TB) (hr.mono (by omega)) rfl T.m_is_scale T.F_is_scale.kp T.b_is_scale .nil pass0 (pa_cons (pv 2) pa_nil)))) (pw_or (pt_not (pt_val (pe_call (ok_is_scale T TB) (hr.mono (by omega)) rfl T.m_is_scale T.F_is_scale.kp T.b_is_scale .nil pass0 (pa_cons (pv 3) pa_nil)))) (pw_or1 (pt_cmpR op_gt (pv 2) (pv 3) (nomark _))))))
        (pss_one (ps_ret pe_bl))
        pss_nil)
      (pss_one (ps_ret (pe_and (pe_call (ok_is_between T TB) (hr.mono (by omega)) rfl T.m_is_between T.F_is_between.kp T.b_is_between .nil pass0 (pa_cons (pv 4) (pa_cons (pe_un un_neg (pe_gI T.c_MOST_ORDER)) (pa_cons (pe_gI T.c_MOST_ORDER) pa_nil)))) (pe_one (pe_call (ok_is_look T TB) (hr.mono (by omega)) rfl T.m_is_look T.F_is_look.kp T.b_is_look .nil pass0 (pa_cons (pv 5) pa_nil)))))))))), ?_⟩
    refine ⟨_, rfl, _, _, _, _, _, rfl, .ty _, hx.x, isaN hx.six (by simp [My.six]), _, rfl, ?_⟩
    by_cases e : n = "tuple"
    rotate_left
    · rw [h2 e] at k
      refine ifTr ?_ (k _ (Same.refl _))
      cases hx <;> first | rfl | exact absurd rfl e
    subst e
    refine ifFa (by decide) ?_
    obtain ⟨a, xs, rfl, ht, hc⟩ := h1 rfl
    refine ⟨_, rfl, _, _, rfl, .inr ⟨_, ht, rfl⟩, rfl, _, rfl, ?_⟩
    rcases hc with ⟨hl, rfl⟩ | ⟨kk, l, m, o, u, c, rfl, hk, ⟨_, tl⟩, ⟨_, tm⟩, ⟨_, to⟩, hu, rfl⟩
    · exact ifND (fun _ => k _ (Same.refl _)) (fun z => absurd (by injection z with z; omega) hl)
    have kf : ∀ H', Same H H' → ruleB kk l m o c = false → Q (.bl false) H' := fun H' s e => by
      have := k H' s
      rw [e] at this
      exact this
    refine ifFa (by rfl) ?_
    refine ⟨_, rfl, _, _, rfl, ht, rfl, _, _, rfl, _, _, rfl, _, _, rfl, _, _, rfl, _, _, rfl, rfl, ?_⟩
    have tk : ∃ n, Ty K H kk n := by
      rcases hk with rfl | ⟨s, rfl, _⟩
      · exact ⟨_, .non⟩
      · exact ⟨_, .str _⟩
    obtain ⟨nk, tk⟩ := tk
    refine ⟨_, rfl, _, _, rfl, tk, tb, ?_, fun H1 s1 => ⟨_, rfl, ?_⟩⟩
    · rintro s rfl
      rcases hk with z | ⟨s', z, h⟩
      · cases z
      · injection z with z; subst z; exact h
    have sc : scal kk (.str "") = true := by
      rcases hk with rfl | ⟨s, rfl, _⟩ <;> rfl
    by_cases hn : (nameV kk || decide (kk = .str "")) = true
    rotate_left
    · have hn : (nameV kk || decide (kk = .str "")) = false := by rw [Bool.not_eq_true] at hn; exact hn
      have h1 : nameV kk = false := (Bool.or_eq_false_iff.mp hn).1
      have h2 : decide (kk = .str "") = false := (Bool.or_eq_false_iff.mp hn).2
      refine ifTr (by rw [h1]; rfl) ⟨_, rfl, sc, _, rfl, ?_⟩
      refine ifTr (by rw [h2]; rfl) (kf _ s1 ?_)
      unfold ruleB
      rw [hn, Bool.false_and]
    refine iteR ?_ (fun _ r => ifFa rfl r) (fun e r => ⟨_, rfl, sc, _, rfl, ifFa ?_ r⟩)
    rotate_left
    · rw [Bool.not_eq_true'] at e
      rw [e, Bool.false_or] at hn
      rw [hn]; rfl
    refine ⟨_, rfl, _, _, rfl, tl.same s1, _, rfl, ?_⟩
    refine ifB (fun e1 => ?_) (fun e1 => ?_)
    · rw [Bool.not_eq_true'] at e1
      refine kf _ s1 ?_
      unfold ruleB
      rw [e1, Bool.false_and, Bool.and_false]
    rw [Bool.not_eq_false'] at e1
    refine ⟨_, rfl, _, _, rfl, tm.same s1, _, rfl, ?_⟩
    refine ifB (fun e2 => ?_) (fun e2 => ?_)
    · rw [Bool.not_eq_true'] at e2
      refine kf _ s1 ?_
      unfold ruleB
      rw [e2, Bool.false_and, Bool.and_false, Bool.and_false]
    rw [Bool.not_eq_false'] at e2
    cases tl with
    | int i =>
      cases tm with
      | int j =>
        refine ⟨_, rfl, _, rfl, _, _, rfl, rfl, _, rfl, ?_⟩
        refine ifD (fun e3 => ?_) (fun e3 => ?_)
        · refine kf _ s1 ?_
          unfold ruleB
          rw [show leV (.int i) (.int j) = false from decide_eq_false (by omega)]
          simp
        refine ⟨_, rfl, _, rfl, _, _, _, _, rfl, to.same s1, _, rfl, ?_⟩
        have e4 : ruleB kk (.int i) (.int j) o c = (betB (-8) 8 o && c) := by
          unfold ruleB
          rw [hn, e1, e2, show leV (.int i) (.int j) = true from decide_eq_true (by omega), Bool.true_and, Bool.true_and, Bool.true_and, Bool.true_and]
        rw [e4] at kf k
        refine ifB (fun e5 => ?_) (fun e5 => ?_)
        · have k := k H1 s1
          rw [show betB (-8) 8 o = true from e5, Bool.true_and] at k
          exact ⟨_, rfl, _, _, rfl, hu.same s1, k⟩
        · exact kf _ s1 (by rw [show betB (-8) 8 o = false from e5, Bool.false_and])
      | _ => cases e2
    | _ => cases e1

theorem ok_is_style (T : Txt K mg) (TB : TxtB T base w) : FnOk P w K mg base CX0 9 T.a_is_style T.d_is_style ["value"] (fun vs H Q _ => ∃ x b, vs = [x] ∧ StV K H x b ∧ Tbs T.ts H ∧ ∀ H', Same H H' → Q (.bl b) H') := by
  refine T.F_is_style.ok sc_is_style (fun vs H Q E h => ?_) (fun A outer s H vs Q E hr h => ?_)
  · obtain ⟨x, b, rfl, ⟨n, hx, h1, h2⟩, tb, k⟩ := h
    rfl
  · obtain ⟨x, b, rfl, ⟨n, hx, h1, h2⟩, tb, k⟩ := h
    refine ⟨_, (pss_one (ps_ret (pe_and (pe_callB call_isi (by rfl) T.n_isinstance (by decide +kernel) (pa_cons (pv 0) (pa_cons (pe_bltn (v := .ty "tuple") (by rfl) T.n_tuple (by decide +kernel) rfl) pa_nil))) (pe_and (pe_cmpR op_le (pe_callB call_len (by rfl) T.n_len (by decide +kernel) (pa_cons (pv 0) pa_nil)) (pe_gI T.c_MOST_RULES) (nomark _)) (pe_one (Gx.pe_gen false (own := [("rule", 1)]) (g := gName 1) (tt := tYes) (x := "rule") (k := 5) rfl (hr.mono (by omega)) rfl sc_is_style.nd rfl T.n_all TB.t_is_style rfl (Gx.genS_by rfl rfl (by decide +kernel) rfl rfl (by rfl)) (blkOk_by (own := [("rule", 1)]) (N := N_is_style) (sc := defScope s_is_style) (by decide +kernel)) (pi_tup (pv 0)) (fun _ _ _ _ _ _ _ hB => (pg_name (i := 1) sc_is_style.nd rfl (Or.inl rfl))) (fun _ _ _ _ _ _ _ hB => pts_nil) (fun _ _ _ _ _ _ _ hB => (pe_call (ok_is_rule T TB) (hB.mono (by omega)) rfl T.m_is_rule T.F_is_rule.kp T.b_is_rule .nil pass0 (pa_cons (pv 1) pa_nil))) (fun _ => rfl))))))), ?_⟩
    refine ⟨_, rfl, _, _, _, _, _, rfl, .ty _, hx.x, isaN hx.six (by simp [My.six]), _, rfl, ?_⟩
    by_cases e : n = "tuple"
    rotate_left
    · rw [h2 e] at k
      refine ifFa ?_ (k _ (Same.refl _))
      cases hx <;> first | rfl | exact absurd rfl e
    subst e
    refine ifTr (by decide) ?_
    obtain ⟨a, xs, bs, rfl, ht, hl, hb, hr, rfl⟩ := h1 rfl
    refine ⟨_, rfl, _, _, rfl, .inr ⟨_, ht, rfl⟩, _, _, rfl, rfl, _, rfl, ?_⟩
    refine ifB (fun e1 => ?_) (fun e1 => ?_)
    rotate_left
    · have k := k _ (Same.refl _)
      rw [e1, Bool.false_and] at k
      exact k
    have kq : ∀ H', Same H H' → Q (.bl (bs.all id)) H' := fun H' s => by
      have := k H' s
      rw [e1, Bool.true_and] at this
      exact this
    refine ⟨_, rfl, _, rfl, ⟨_, ht⟩, tb _ (by simp [Txt.ts]), fun H2 g2 => ?_⟩
    have s2 := same_tab (tb _ (by simp [Txt.ts])) g2
    refine Gx.gen_walk walk_tup (fun i H' => Same H H' ∧ ∀ j c, j < i → bs[j]? = some c → c = true) ⟨s2, fun j c h => absurd h (Nat.not_lt_zero _)⟩ (fun i H' h => tSame h.1 ht) ?_ ?_
    · rintro i x H3 H4 hi ⟨s3, ha⟩ ⟨rfl, hxi⟩
      refine ⟨rfl, yesI ?_⟩
      refine iteT ?_
      have hbi : bs[i]? = some bs[i] := List.getElem?_eq_getElem (by omega)
      refine ⟨_, rfl, _, _, rfl, (hr i x _ hxi hbi).same s3, tb.same s3, fun H5 s5 => ⟨_, rfl, ?_⟩⟩
      have s4 := s3.trans s5
      by_cases q : bs[i] = false
      · refine (if_pos q).mpr ?_
        have := kq _ s4
        rw [show bs.all id = false from List.all_eq_false.mpr ⟨bs[i], List.mem_of_getElem? hbi, by rw [q]; decide⟩] at this
        exact this
      · refine (if_neg q).mpr ⟨s4, fun j c hj hc => ?_⟩
        by_cases z : j = i
        · subst z
          rw [hbi] at hc
          cases hc
          cases w : bs[j] with
          | true => rfl
          | false => exact absurd w q
        · exact ha j c (by omega) hc
    · rintro H3 ⟨s3, ha⟩
      have := kq _ s3
      rw [show bs.all id = true from all_get.mpr fun i c h => by have q := (List.getElem?_eq_some_iff.mp h).1; exact ha i c (by omega) h] at this
      exact this

theorem ok__law_stream (T : Txt K mg) (TB : TxtB T base w) : FnOk P w K mg base CX0 1 T.a__law_stream T.d__law_stream ["script"] (fun vs H Q _ => ∃ (a : Addr) (ns : List Int), vs = [.ref a] ∧ SqL K H a (ns.map V.int) ∧ ∀ H' s b, Same H H' → H s = none → Strm H' s b → Q (.ref s) H') := by
  refine T.F__law_stream.ok sc__law_stream (fun vs H Q E h => ?_) (fun cdv A outer s H vs Q E hr h => ?_)
  · obtain ⟨a, ns, rfl, hS, k⟩ := h
    rfl
  · obtain ⟨a, ns, rfl, hS, k⟩ := h
    refine ⟨_, (pss_one (ps_ret (pe_lst (pa_cons (pe_callTy call_list_of (by rfl) T.n_list (by decide +kernel) (pa_cons (pv 0) pa_nil)) (pa_cons pe_int (pa_cons pe_int pa_nil)))))), ?_⟩
    refine ⟨_, rfl, _, _, rfl, .inl hS, fun b hb => ⟨small rfl, fun s hs => ?_⟩⟩
    have hs' := hs
    have nb : s ≠ b := fun e => by rw [e, upd_same] at hs'; cases hs'
    rw [upd_ne nb] at hs'
    exact k _ s b (same_then (same_new hb) hs) hs' ⟨ns, 0, 0, by rw [upd_ne nb.symm, upd_same], upd_same, by decide, by decide⟩

theorem ok__law_next (T : Txt K mg) (TB : TxtB T base w) : FnOk P w K mg base CX0 1 T.a__law_next T.d__law_next ["stream", "many"] (fun vs H Q _ => ∃ (s : Addr) (m : Int) (b : Addr), vs = [.ref s, .int m] ∧ 0 < m ∧ m < 2 ^ 200 ∧ Strm H s b ∧ ∀ (d : Int) H', 0 ≤ d → d < m → Strm H' s b → But s H H' → Q (.int d) H') := by
  refine T.F__law_next.ok sc__law_next (fun vs H Q E h => ?_) (fun cdv A outer s H vs Q E hr h => ?_)
  · obtain ⟨s, m, b, rfl, m0, m1, S, k⟩ := h
    rfl
  · obtain ⟨s, m, b, rfl, m0, m1, S, k⟩ := h
    refine ⟨_, (C8.pss_cut (ps_if (pt_cmpR op_eq (pe_ix (r := rIxL K) ix_list (pv 0) pe_int (fun _ _ => rfl)) pe_int (nomark _))
        (pss_cons (ps_set (i := 2) sc__law_next.nd rfl (Or.inl rfl) (pe_ix (r := rIxL K) ix_list (pv 0) pe_int (fun _ _ => rfl)))
        (pss_cons (ps_set (i := 3) sc__law_next.nd rfl (Or.inl rfl) (pe_op op_add pe_int (pv 2)))
        (C8.pss_cut (ps_if (pt_cmpR op_lt (pv 2) (pe_callB call_len (by rfl) T.n_len (by decide +kernel) (pa_cons (pe_ix (r := rIxL K) ix_list (pv 0) pe_int (fun _ _ => rfl)) pa_nil)) (nomark _))
          (pss_one (ps_set (i := 3) sc__law_next.nd rfl (Or.inl rfl) (pe_callB call_abs (by rfl) T.n_abs (by decide +kernel) (pa_cons (pe_ix (r := rIxL K) ix_list (pe_ix (r := rIxL K) ix_list (pv 0) pe_int (fun _ _ => rfl)) (pv 2) (fun _ _ => rfl)) pa_nil))))
          pss_nil)
        (C8.pss_cut (ps_if (pt_cmpR op_lt (pv 3) (pe_op op_pow pe_int pe_int) (nomark _))
          (pss_cons (ps_set (i := 3) sc__law_next.nd rfl (Or.inl rfl) (pe_op op_modN (pe_callTy call_int1 (by rfl) T.n_int (by decide +kernel) (pa_cons (pe_op op_add (pe_op op_add (pe_op op_mul (pv 3) pe_int) (pe_op op_mul (pv 2) pe_int)) pe_int) pa_nil)) pe_int))
          (pss_one (ps_set (i := 3) sc__law_next.nd rfl (Or.inl rfl) (pe_op op_add (pe_op op_mul (pe_op op_modN (pe_callTy call_int1 (by rfl) T.n_int (by decide +kernel) (pa_cons (pe_op op_add (pe_op op_mul (pv 3) pe_int) pe_int) pa_nil)) pe_int) pe_int) (pv 3)))))
          pss_nil)
        (pss_cons (ps_asg (pv 3) (pg_sub (pv 0) pe_int set_list))
        (pss_one (ps_asg (pe_op op_add (pv 2) pe_int) (pg_sub (pv 0) pe_int set_list))))))))
        pss_nil)
      (pss_cons (ps_set (i := 4) sc__law_next.nd rfl (Or.inl rfl) (pe_op op_modN (pe_callTy call_int1 (by rfl) T.n_int (by decide +kernel) (pa_cons (pe_ix (r := rIxL K) ix_list (pv 0) pe_int (fun _ _ => rfl)) pa_nil)) (pv 1)))
      (pss_cons (ps_asg (pe_op op_fdivW (pe_ix (r := rIxL K) ix_list (pv 0) pe_int (fun _ _ => rfl)) (pv 1)) (pg_sub (pv 0) pe_int set_list))
      (pss_one (ps_ret (pv 4)))))), ?_⟩
    obtain ⟨ns, c, kk, hb, hs, c0, k0⟩ := S
    have nbs : b ≠ s := Strm.ne hb hs
    refine ⟨fun σ' H' => ∃ (c kk : Int) (o1 o2 : Option V), σ' = [some (.ref s), some (.int m), o1, o2, none] ∧ H' b = some (.lst (ns.map V.int)) ∧ H' s = some (.lst [.ref b, .int c, .int kk]) ∧ 0 ≤ c ∧ 0 ≤ kk ∧ But s H H', ?_, ?_⟩
    rotate_left
    · rintro σ' H1 ⟨c, kk, o1, o2, rfl, hb, hs, c0, k0, hB⟩
      refine ⟨_, rfl, _, _, _, _, rfl, rfl, SqL.of hs, at1, .inl ⟨_, rfl, _, rfl, _, _, rfl, rfl, by omega, ?_⟩⟩
      refine ⟨_, rfl, _, _, _, _, rfl, rfl, SqL.of hs, at1, _, rfl, _, _, rfl, rfl, wide_div (b := 200) m0 (by omega) (by decide) (by decide), _, rfl, _, _, _, 1, rfl, rfl, hs, rfl, ?_⟩
      refine ⟨_, rfl, ?_⟩
      exact k _ _ (fmod_ge m0) (fmod_lt m0) ⟨ns, c / m, kk, by rw [upd_ne nbs]; exact hb, upd_same, div_ge c0 m0, k0⟩ hB.then_at
    refine ⟨_, rfl, _, _, _, _, rfl, rfl, SqL.of hs, at1, rfl, _, rfl, ?_⟩
    refine ifD (fun e => ?_) (fun e => ⟨c, kk, none, none, rfl, hb, hs, c0, k0, But.refl⟩)
    refine ⟨_, rfl, _, _, _, _, rfl, rfl, SqL.of hs, at2, _, rfl, _, _, rfl, rfl, ?_⟩
    -- if k < len(stream[0])
    have mid : ∀ (cell : Int) (t u : TS) (D : Ends) (σ : St) (H1 : Hp), t { D with nx := fun σ' H' => ∃ cell : Int, σ' = [some (.ref s), some (.int m), some (.int kk), some (.int cell), none] ∧ H' = H ∧ 0 ≤ cell } σ H1 → (∀ cell : Int, 0 ≤ cell → u D [some (.ref s), some (.int m), some (.int kk), some (.int cell), none] H) → C8.tCut t u D σ H1 := by
      intro _ t u D σ H1 h1 h2
      exact ⟨_, h1, fun σ' H' ⟨cell, e1, e2, e3⟩ => by rw [e1, e2]; exact h2 cell e3⟩
    refine mid 0 _ _ _ _ _ ?_ fun cell p0 => mid 0 _ _ _ _ _ ?_ fun cell p0 => ?_
    · refine ⟨_, rfl, _, rfl, _, _, _, _, rfl, rfl, SqL.of hs, at0, _, _, rfl, .inl ⟨_, SqL.of hb, rfl⟩, _, _, rfl, rfl, _, rfl, ?_⟩
      refine ifD (fun e => ?_) (fun e => ⟨_, rfl, rfl, by omega⟩)
      have hk : kk.toNat < ns.length := by rw [List.length_map] at e; omega
      refine ⟨_, rfl, _, _, _, _, rfl, rfl, SqL.of hs, at0, _, rfl, _, _, kk, _, rfl, rfl, SqL.of hb, at_of (j := kk.toNat) (v := V.int ns[kk.toNat]) (by omega) (by rw [List.getElem?_map, List.getElem?_eq_getElem hk]; rfl), _, rfl, ?_⟩
      exact ⟨_, rfl, rfl, by split <;> omega⟩
    · refine ⟨_, rfl, _, _, rfl, rfl, ⟨by decide, by decide, by decide⟩, _, _, rfl, rfl, _, rfl, ?_⟩
      refine ifD (fun e => ?_) (fun e => ⟨_, rfl, rfl, p0⟩)
      refine ⟨_, rfl, _, _, rfl, rfl, .inr ⟨by decide, by decide⟩, _, rfl, _, _, rfl, rfl, .inr ⟨by decide, by decide⟩, _, _, rfl, rfl, _, _, rfl, rfl, .inl ⟨_, rfl, _, _, rfl, rfl, show (2147483647 : Int) ≠ 0 by decide, ?_⟩⟩
      have q0 := fmod_ge (a := cell * 48271 + kk * 69621 + 11) (m := 2147483647) (by decide)
      refine ⟨_, rfl, _, _, rfl, rfl, .inr ⟨by decide, by decide⟩, _, _, rfl, rfl, .inl ⟨_, rfl, _, _, rfl, rfl, show (2147483647 : Int) ≠ 0 by decide, _, _, rfl, rfl, .inr ⟨by decide, by decide⟩, _, rfl, _, _, rfl, rfl, ?_⟩⟩
      have q1 := fmod_ge (a := (cell * 48271 + kk * 69621 + 11).fmod 2147483647 * 16807 + 13) (m := 2147483647) (by decide)
      exact ⟨_, rfl, rfl, by omega⟩
    refine ⟨_, rfl, _, rfl, _, _, _, 1, rfl, rfl, hs, rfl, ?_⟩
    refine ⟨_, rfl, _, _, rfl, rfl, _, rfl, _, _, _, 2, rfl, rfl, upd_same, rfl, ?_⟩
    exact ⟨cell, kk + 1, _, _, rfl, by rw [upd_ne nbs, upd_ne nbs]; exact hb, upd_same, p0, by omega, But.at.then_at⟩

theorem ok__law_look (T : Txt K mg) (TB : TxtB T base w) : FnOk P w K mg base CX0 2 T.a__law_look T.d__law_look ["stream"] (fun vs H Q _ => ∃ s b, vs = [.ref s] ∧ Strm H s b ∧ ∀ a xs H', Look xs → SqT K H' a xs → Strm H' s b → But s H H' → Q (.ref a) H') := by
  refine T.F__law_look.ok sc__law_look (fun vs H Q E h => ?_) (fun cdv A outer s H vs Q E hr h => ?_)
  · obtain ⟨s, b, rfl, S, k⟩ := h
    rfl
  · obtain ⟨s, b, rfl, S, k⟩ := h
    refine ⟨_, (pss_cons (ps_set (i := 1) sc__law_look.nd rfl (Or.inl rfl) (pe_call (ok__law_next T TB) (hr.mono (by omega)) rfl T.m__law_next T.F__law_next.kp T.b__law_next .nil pass0 (pa_cons (pv 0) (pa_cons pe_int pa_nil))))
      (pss_cons (ps_set (i := 2) sc__law_look.nd rfl (Or.inl rfl) (pe_op op_add pe_int (pe_call (ok__law_next T TB) (hr.mono (by omega)) rfl T.m__law_next T.F__law_next.kp T.b__law_next .nil pass0 (pa_cons (pv 0) (pa_cons pe_int pa_nil)))))
      (pss_cons (ps_if (pt_cmpR op_eq (pv 1) pe_int (nomark _))
        (pss_one (ps_ret (pe_tup (pa_cons pe_str (pa_cons (pv 2) pa_nil)))))
        pss_nil)
      (pss_one (ps_ret (pe_tup (pa_cons (pe_ix (r := rIxL K) ix_list (pe_lst (pa_cons pe_str (pa_cons pe_str pa_nil))) (pe_op op_sub (pv 1) pe_int) (fun _ _ => rfl)) (pa_cons (pv 2) (pa_cons (pe_op op_add pe_int (pe_call (ok__law_next T TB) (hr.mono (by omega)) rfl T.m__law_next T.F__law_next.kp T.b__law_next .nil pass0 (pa_cons (pv 0) (pa_cons (pe_ix (r := rIxL K) ix_list (pe_lst (pa_cons pe_int (pa_cons pe_int pa_nil))) (pe_call (ok__law_next T TB) (hr.mono (by omega)) rfl T.m__law_next T.F__law_next.kp T.b__law_next .nil pass0 (pa_cons (pv 0) (pa_cons pe_int pa_nil))) (fun _ _ => rfl)) pa_nil)))) pa_nil))))))))), ?_⟩
    refine ⟨_, rfl, _, _, _, rfl, by decide, by decide, S, fun d H1 d0 d1 S1 B1 => ?_⟩
    refine ⟨_, rfl, _, _, _, rfl, by decide, by decide, S1, fun e H2 e0 e1 S2 B2 => ⟨_, _, rfl, rfl, ?_⟩⟩
    refine ⟨_, rfl, rfl, _, rfl, ifD (fun z => ?_) (fun z => ?_)⟩
    · exact ⟨_, rfl, small rfl, fun p hp => k p _ _ (.fill _ (by omega) (by omega)) tHere (S2.over hp) ((B1.trans B2).then_new hp)⟩
    have d2 : 1 ≤ d := by
      rcases (show d = 0 ∨ 1 ≤ d by omega) with q | q
      · exact absurd (by rw [q]) z
      · exact q
    obtain ⟨v, hv, hz⟩ := atTwo (a := V.str "stroke") (b := .str "dot") (i := d - 1) (by omega) (by omega)
    refine ⟨small rfl, fun l hl => ⟨_, rfl, _, _, rfl, rfl, _, _, _, _, rfl, rfl, lHere, hv, ?_⟩⟩
    refine ⟨_, rfl, _, rfl, small rfl, fun l2 hl2 => ?_⟩
    refine ⟨_, rfl, _, _, _, rfl, by decide, by decide, (S2.over hl).over hl2, fun f H4 f0 f1 S4 B4 => ?_⟩
    obtain ⟨v2, hv2, hz2⟩ := atTwo (a := V.int 3) (b := .int 16) (i := f) f0 f1
    refine ⟨_, _, _, _, rfl, rfl, SqL.of (rBut B4 hl2 (S2.over hl)), hv2, ?_⟩
    have B3 := ((B1.trans B2).then_new (o := HO.lst [.str "stroke", .str "dot"]) hl).trans ((But.new hl2).trans B4)
    have S5 := S4
    rcases hz2 with rfl | rfl <;> refine ⟨_, _, _, rfl, by decide, by decide, S4, fun g H5 g0 g1 S5 B5 => ⟨_, _, rfl, rfl, small rfl, fun p hp => ?_⟩⟩
    all_goals
      have B6 := (B3.trans B5).then_new (o := HO.tup [v, .int (1 + e), .int (1 + g)]) hp
      rcases hz with rfl | rfl
      · exact k p _ _ (.line "stroke" (1 + e) (1 + g) (.inl rfl) (by omega) (by omega) (by omega) (by omega)) tHere (S5.over hp) B6
      · exact k p _ _ (.line "dot" (1 + e) (1 + g) (.inr rfl) (by omega) (by omega) (by omega) (by omega)) tHere (S5.over hp) B6

theorem ok__law_style (T : Txt K mg) (TB : TxtB T base w) : FnOk P w K mg base CX0 3 T.a__law_style T.d__law_style ["stream", "least"] (fun vs H Q _ => ∃ s b least, vs = [.ref s, .int least] ∧ 0 ≤ least ∧ least ≤ 100 ∧ Strm H s b ∧ ∀ (a : Addr) (rs : List Addr) H', SqT K H' a (rs.map V.ref) → (∀ r ∈ rs, RuleE K H' r) → least ≤ rs.length → (rs.length : Int) ≤ least + 5 → Strm H' s b → But s H H' → Q (.ref a) H') := by
  refine T.F__law_style.ok sc__law_style (fun vs H Q E h => ?_) (fun cdv A outer s H vs Q E hr h => ?_)
  · obtain ⟨s, b, least, rfl, l0, l1, S, k⟩ := h
    rfl
  · obtain ⟨s, b, least, rfl, l0, l1, S, k⟩ := h
    refine ⟨_, (pss_cons (ps_set (i := 2) sc__law_style.nd rfl (Or.inl rfl) (pe_lst pa_nil))
      (pss_cons (ps_for PassesOwn.never rfl (pi_range1 rfl T.n_range (pa_cons (pe_op op_add (pv 1) (pe_call (ok__law_next T TB) (hr.mono (by omega)) rfl T.m__law_next T.F__law_next.kp T.b__law_next .nil pass0 (pa_cons (pv 0) (pa_cons pe_int pa_nil)))) pa_nil)) (pg_name (i := 3) sc__law_style.nd rfl (Or.inl rfl))
        (pss_cons (ps_set (i := 4) sc__law_style.nd rfl (Or.inl rfl) (pe_call (ok__law_next T TB) (hr.mono (by omega)) rfl T.m__law_next T.F__law_next.kp T.b__law_next .nil pass0 (pa_cons (pv 0) (pa_cons pe_int pa_nil))))
        (pss_cons (ps_set (i := 5) sc__law_style.nd rfl (Or.inl rfl) (pe_ix (r := rIxL K) ix_list (pe_lst (pa_cons pe_str (pa_cons pe_str (pa_cons pe_str (pa_cons pe_str (pa_cons pe_str pa_nil)))))) (pe_call (ok__law_next T TB) (hr.mono (by omega)) rfl T.m__law_next T.F__law_next.kp T.b__law_next .nil pass0 (pa_cons (pv 0) (pa_cons pe_int pa_nil))) (fun _ _ => rfl)))
        (pss_cons (ps_set (i := 6) sc__law_style.nd rfl (Or.inl rfl) (pe_op op_sub (pe_call (ok__law_next T TB) (hr.mono (by omega)) rfl T.m__law_next T.F__law_next.kp T.b__law_next .nil pass0 (pa_cons (pv 0) (pa_cons pe_int pa_nil))) pe_int))
        (pss_one (ps_expr (pe_bm PySem.F.plainAttrs_list PySem.F.slot_list_append PySem.F.type_list_append mt_append (pv 2) (pa_cons (pe_tup (pa_cons (pv 5) (pa_cons (pv 4) (pa_cons (pe_callB (call_min2 rfl) (by rfl) T.n_min (by decide +kernel) (pa_cons pe_int (pa_cons (pe_op op_add (pv 4) (pe_call (ok__law_next T TB) (hr.mono (by omega)) rfl T.m__law_next T.F__law_next.kp T.b__law_next .nil pass0 (pa_cons (pv 0) (pa_cons pe_int pa_nil)))) pa_nil))) (pa_cons (pv 6) (pa_cons (pe_call (ok__law_look T TB) (hr.mono (by omega)) rfl T.m__law_look T.F__law_look.kp T.b__law_look .nil pass0 (pa_cons (pv 0) pa_nil)) pa_nil)))))) pa_nil))))))))
      (pss_one (ps_ret (pe_callTy call_tuple_of (by rfl) T.n_tuple (by decide +kernel) (pa_cons (pv 2) pa_nil)))))), ?_⟩
    refine ⟨small rfl, fun D hD => ?_⟩
    refine ⟨_, rfl, _, rfl, _, _, _, rfl, by decide, by decide, S.over hD, fun d H1 d0 d1 S1 B1 => ⟨_, _, rfl, rfl, ?_⟩⟩
    refine ⟨_, rfl, by omega, by omega, for_range (lo := 0) (n := (least + d).toNat) (fun i σ H' => ∃ (rs : List Addr) (o1 o2 o3 o4 : Option V), σ = [some (.ref s), some (.int least), some (.ref D), o1, o2, o3, o4] ∧ H' D = some (.lst (rs.map V.ref)) ∧ (∀ r ∈ rs, RuleE K H' r) ∧ rs.length = i ∧ Strm H' s b ∧ But s H H') ⟨[], none, none, none, none, rfl, rBut B1 hD S, (fun r h => by cases h), rfl, S1, (But.new hD).trans B1⟩ ?_ ?_⟩
    rotate_left
    · rintro σ H2 ⟨rs, o1, o2, o3, o4, rfl, hD2, hr, hl, S2, B2⟩
      exact ⟨_, rfl, _, _, rfl, .inl ⟨SqL.of hD2, fun p hp => k p rs _ tHere (fun r h => (hr r h).same (same_new hp)) (by omega) (by omega) (S2.over hp) (B2.then_new hp)⟩⟩
    rintro i σ H2 hi ⟨rs, o1, o2, o3, o4, rfl, hD2, hr, hl, S2, B2⟩
    refine ⟨_, rfl, _, _, _, rfl, by decide, by decide, S2, fun low H3 w0 w1 S3 B3 => ?_⟩
    refine ⟨small rfl, fun q hq => ?_⟩
    refine ⟨_, rfl, _, _, _, rfl, by decide, by decide, S3.over hq, fun kn H4 kn0 kn1 S4 B4 => ?_⟩
    obtain ⟨kv, hkv, hmem⟩ := atAny (xs := [V.str "", V.str "", V.str "farm", V.str "way", V.str "pond"]) (i := kn) kn0 kn1
    refine ⟨_, _, _, _, rfl, rfl, SqL.of (rBut B4 hq S3), hkv, ?_⟩
    refine ⟨_, rfl, _, _, _, rfl, by decide, by decide, S4, fun od H5 od0 od1 S5 B5 => ⟨_, _, rfl, rfl, ?_⟩⟩
    have B25 := ((B3.then_new hq).trans B4).trans B5
    have nDs : D ≠ s := S.new1 hD
    have nDb : D ≠ b := S.new2 hD
    have hD5 := B25.get nDs hD2
    refine ⟨_, rfl, tyL hD5, _, rfl, _, rfl, _, rfl, _, rfl, _, _, _, rfl, by decide, by decide, S5, fun mm H6 m0 m1 S6 B6 => ⟨_, _, rfl, rfl, _, _, rfl, _, rfl, _, rfl, _, _, rfl, S6, fun la xs H7 lk hla S7 B7 => ⟨small rfl, fun r hr7 => ⟨_, _, _, rfl, rfl, (same_new hr7).get ((B6.trans B7).get nDs hD5), by rw [List.length_map, hl]; exact line_of (by omega), ?_⟩⟩⟩⟩
    have hD7 := (same_new (o := HO.tup [kv, .int low, .int (if low + mm < 6 then low + mm else 6), .int (od - 2), .ref la]) hr7).get ((B6.trans B7).get nDs hD5)
    have B27 := (B25.trans (B6.trans B7)).then_new (o := HO.tup [kv, .int low, .int (if low + mm < 6 then low + mm else 6), .int (od - 2), .ref la]) hr7
    refine ⟨rs ++ [r], _, _, _, _, rfl, by rw [upd_same]; simp, fun r' h => ?_, by simp; omega, (S7.over hr7).at nDs nDb, (B2.trans B27).put hD⟩
    rcases List.mem_append.mp h with h | h
    · exact ((hr r' h).but B27 S2).put ⟨_, hD7⟩
    rw [List.mem_singleton] at h
    subst h
    have hk : ∃ kk : Str, kv = .str kk ∧ (kk = "" ∨ kk = "farm" ∨ kk = "way" ∨ kk = "pond") := by
      simp only [List.mem_cons, List.not_mem_nil, or_false] at hmem
      rcases hmem with rfl | rfl | rfl | rfl | rfl
      · exact ⟨_, rfl, .inl rfl⟩
      · exact ⟨_, rfl, .inl rfl⟩
      · exact ⟨_, rfl, .inr (.inl rfl)⟩
      · exact ⟨_, rfl, .inr (.inr (.inl rfl))⟩
      · exact ⟨_, rfl, .inr (.inr (.inr rfl))⟩
    obtain ⟨kk, rfl, hk⟩ := hk
    exact ⟨_, _, _, _, _, _, tAt ⟨_, hD7⟩ tHere, tAt ⟨_, hD7⟩ (tOver hr7 hla), lk, hk, w0, by split <;> omega, by split <;> omega, by omega, by omega⟩

theorem ok__law_bad_look (T : Txt K mg) (TB : TxtB T base w) : FnOk P w K mg base CX0 2 T.a__law_bad_look T.d__law_bad_look ["stream", "look"] (fun vs H Q _ => ∃ s a xs b, vs = [.ref s, .ref a] ∧ Strm H s b ∧ SqT K H a xs ∧ Look xs ∧ ∀ v H', PB (LVf K) s H' v → Strm H' s b → But s H H' → Q v H') := by
  refine T.F__law_bad_look.ok sc__law_bad_look (fun vs H Q E h => ?_) (fun cdv A outer s H vs Q E hr h => ?_)
  · obtain ⟨s, a, xs, b, rfl, S, ha, lk, k⟩ := h
    rfl
  · obtain ⟨s, a, xs, b, rfl, S, ha, lk, k⟩ := h
    refine ⟨_, (pss_cons (ps_set (i := 2) sc__law_bad_look.nd rfl (Or.inl rfl) (pe_lst (pa_cons (pe_op op_catA (pe_tup (pa_cons pe_str pa_nil)) (pe_slice sl_tupA (pv 1) (po_some pe_int) po_none)) (pa_cons (pe_op op_catA (pe_tup (pa_cons (pe_ix (r := rIxT K) ix_tup (pv 1) pe_int (fun _ _ => rfl)) (pa_cons pe_int pa_nil))) (pe_slice sl_tupA (pv 1) (po_some pe_int) po_none)) (pa_cons (pe_op op_catA (pe_tup (pa_cons (pe_ix (r := rIxT K) ix_tup (pv 1) pe_int (fun _ _ => rfl)) (pa_cons pe_int pa_nil))) (pe_slice sl_tupA (pv 1) (po_some pe_int) po_none)) (pa_cons (pe_op op_catA (pe_tup (pa_cons (pe_ix (r := rIxT K) ix_tup (pv 1) pe_int (fun _ _ => rfl)) (pa_cons pe_bl pa_nil))) (pe_slice sl_tupA (pv 1) (po_some pe_int) po_none)) (pa_cons (pe_op op_catA (pv 1) (pe_tup (pa_cons pe_int pa_nil))) (pa_cons (pe_slice sl_tupA (pv 1) po_none (po_some pe_int)) (pa_cons (pe_callTy call_list_of (by rfl) T.n_list (by decide +kernel) (pa_cons (pv 1) pa_nil)) (pa_cons (pe_tup (pa_cons pe_str (pa_cons (pe_ix (r := rIxT K) ix_tup (pv 1) pe_int (fun _ _ => rfl)) (pa_cons pe_int pa_nil)))) (pa_cons (pe_tup (pa_cons pe_str (pa_cons (pe_ix (r := rIxT K) ix_tup (pv 1) pe_int (fun _ _ => rfl)) (pa_cons pe_int pa_nil)))) (pa_cons (pe_tup (pa_cons pe_str (pa_cons (pe_ix (r := rIxT K) ix_tup (pv 1) pe_int (fun _ _ => rfl)) pa_nil))) (pa_cons (pe_tup (pa_cons pe_str (pa_cons (pe_ix (r := rIxT K) ix_tup (pv 1) pe_int (fun _ _ => rfl)) (pa_cons pe_int pa_nil)))) (pa_cons pe_non pa_nil))))))))))))))
      (pss_one (ps_ret (pe_ix (r := rIxL K) ix_list (pv 2) (pe_call (ok__law_next T TB) (hr.mono (by omega)) rfl T.m__law_next T.F__law_next.kp T.b__law_next .nil pass0 (pa_cons (pv 0) (pa_cons (pe_callB call_len (by rfl) T.n_len (by decide +kernel) (pa_cons (pv 2) pa_nil)) pa_nil))) (fun _ _ => rfl))))), ?_⟩
    cases lk with
    | fill c c1 c2 =>
      have B0 : BL (LVf K) H H s b [] := BL.nil S
      have e0 : Same H H := Same.refl _
      refine ⟨small rfl, fun p0 w0 => ⟨_, rfl, _, rfl, ?_⟩⟩
      refine noPart (slA_of (tOver w0 (tSame e0 ha)) fun c0 K0 s0 h0 => ?_)
      have h0 : SqT K K0 c0 [.int c] := h0
      refine catA_of (tSame s0 tHere) h0 (small rfl) fun q0 G0 f0 r0 => ?_
      have r0 : SqT K G0 q0 [.str "paint", .int c] := r0
      have g0 := ((same_new w0).trans s0).trans f0
      have B1 := B0.step g0 (pbLook (B0.S.same g0) r0 rfl (lookU_of (.inr (.inr (.inr rfl)))) (lookB_paint))
      have e1 := e0.trans g0
      refine ⟨_, rfl, _, _, _, _, rfl, rfl, tSame e1 ha, at0, small rfl, fun p1 w1 => ⟨_, rfl, _, rfl, ?_⟩⟩
      refine noPart (slA_of (tOver w1 (tSame e1 ha)) fun c1 K1 s1 h1 => ?_)
      have h1 : SqT K K1 c1 [] := h1
      refine catA_of (tSame s1 tHere) h1 (small rfl) fun q1 G1 f1 r1 => ?_
      have r1 : SqT K G1 q1 [V.str "fill", .int 0] := r1
      have g1 := ((same_new w1).trans s1).trans f1
      have B2 := B1.step g1 (pbLook (B1.S.same g1) r1 rfl (lookU_of (.inl rfl)) (lookB_c (by decide)))
      have e2 := e1.trans g1
      refine ⟨_, rfl, _, _, _, _, rfl, rfl, tSame e2 ha, at0, small rfl, fun p2 w2 => ⟨_, rfl, _, rfl, ?_⟩⟩
      refine noPart (slA_of (tOver w2 (tSame e2 ha)) fun c2 K2 s2 h2 => ?_)
      have h2 : SqT K K2 c2 [] := h2
      refine catA_of (tSame s2 tHere) h2 (small rfl) fun q2 G2 f2 r2 => ?_
      have r2 : SqT K G2 q2 [V.str "fill", .int 64] := r2
      have g2 := ((same_new w2).trans s2).trans f2
      have B3 := B2.step g2 (pbLook (B2.S.same g2) r2 rfl (lookU_of (.inl rfl)) (lookB_c (by decide)))
      have e3 := e2.trans g2
      refine ⟨_, rfl, _, _, _, _, rfl, rfl, tSame e3 ha, at0, small rfl, fun p3 w3 => ⟨_, rfl, _, rfl, ?_⟩⟩
      refine noPart (slA_of (tOver w3 (tSame e3 ha)) fun c3 K3 s3 h3 => ?_)
      have h3 : SqT K K3 c3 [] := h3
      refine catA_of (tSame s3 tHere) h3 (small rfl) fun q3 G3 f3 r3 => ?_
      have r3 : SqT K G3 q3 [V.str "fill", .bl true] := r3
      have g3 := ((same_new w3).trans s3).trans f3
      have B4 := B3.step g3 (pbLook (B3.S.same g3) r3 rfl (lookU_of (.inl rfl)) (lookB_c (by decide)))
      have e4 := e3.trans g3
      refine ⟨_, rfl, small rfl, fun p4 w4 => ?_⟩
      refine catA_of (tOver w4 (tSame e4 ha)) tHere (small rfl) fun q4 G4 f4 r4 => ?_
      have r4 : SqT K G4 q4 [V.str "fill", .int c, .int 1] := r4
      have g4 := (same_new w4).trans f4
      have B5 := B4.step g4 (pbLook (B4.S.same g4) r4 rfl (lookU_of (.inl rfl)) (lookB_f))
      have e5 := e4.trans g4
      refine ⟨_, rfl, _, rfl, ?_⟩
      refine slA_of (tSame e5 ha) fun q5 G5 g5 r5 => ?_
      have r5 : SqT K G5 q5 [V.str "fill"] := r5
      have B6 := B5.step g5 (pbLook (B5.S.same g5) r5 rfl (lookU_of (.inl rfl)) rfl)
      have e6 := e5.trans g5
      refine ⟨_, rfl, _, _, rfl, .inr (tSame e6 ha), fun q6 w6 => ?_⟩
      have n6 : q6 ≠ s := B6.S.new1 w6
      have B7 := B6.step (same_new (o := HO.lst [V.str "fill", .int c]) w6) (pbList upd_same n6)
      have e7 := e6.trans (same_new (o := HO.lst [V.str "fill", .int c]) w6)
      refine ⟨_, rfl, _, _, _, _, rfl, rfl, tSame e7 ha, at1, small rfl, fun q7 w7 => ?_⟩
      have B8 := B7.step (same_new (o := HO.tup [.str "stroke", .int c, .int 0]) w7) (pbLook (xs := [.str "stroke", .int c, .int 0]) (B7.S.over w7) tHere rfl (lookU_of (.inr (.inl rfl))) (lookB_w (by decide)))
      have e8 := e7.trans (same_new (o := HO.tup [.str "stroke", .int c, .int 0]) w7)
      refine ⟨_, rfl, _, _, _, _, rfl, rfl, tSame e8 ha, at1, small rfl, fun q8 w8 => ?_⟩
      have B9 := B8.step (same_new (o := HO.tup [.str "dot", .int c, .int 17]) w8) (pbLook (xs := [.str "dot", .int c, .int 17]) (B8.S.over w8) tHere rfl (lookU_of (.inr (.inr (.inl rfl)))) (lookB_w (by decide)))
      have e9 := e8.trans (same_new (o := HO.tup [.str "dot", .int c, .int 17]) w8)
      refine ⟨_, rfl, _, _, _, _, rfl, rfl, tSame e9 ha, at1, small rfl, fun q9 w9 => ?_⟩
      have B10 := B9.step (same_new (o := HO.tup [.str "stroke", .int c]) w9) (pbLook (xs := [.str "stroke", .int c]) (B9.S.over w9) tHere rfl (lookU_of (.inr (.inl rfl))) (lookB_s))
      have e10 := e9.trans (same_new (o := HO.tup [.str "stroke", .int c]) w9)
      refine ⟨_, rfl, _, _, _, _, rfl, rfl, tSame e10 ha, at1, small rfl, fun q10 w10 => ?_⟩
      have B11 := B10.step (same_new (o := HO.tup [.str "fill", .int c, .int 1]) w10) (pbLook (xs := [.str "fill", .int c, .int 1]) (B10.S.over w10) tHere rfl (lookU_of (.inl rfl)) (lookB_f))
      have e11 := e10.trans (same_new (o := HO.tup [.str "fill", .int c, .int 1]) w10)
      have B12 := B11.here (v := V.non) (fun _ _ => LV.no .non (by decide))
      refine ⟨small rfl, fun L wL => ?_⟩
      refine ⟨_, rfl, _, rfl, _, rfl, _, _, rfl, .inl ⟨_, lHere, rfl⟩, _, _, _, rfl, by show (0 : Int) < ((12 : Nat) : Int); decide, by show ((12 : Nat) : Int) < 2 ^ 200; decide, B12.S.over wL, fun d H5 d0 d1 S5 e5 => ?_⟩
      obtain ⟨v, hv, hm⟩ := atAny d0 d1
      exact ⟨_, _, _, _, rfl, rfl, SqL.of (rBut e5 wL B12.S), hv, k v _ ((B12.F v hm).but ((But.new wL).trans e5)) S5 ((B12.e.then_new wL).trans e5)⟩
    | line z c w hz c1 c2 w1 w2 =>
      have B0 : BL (LVf K) H H s b [] := BL.nil S
      have e0 : Same H H := Same.refl _
      refine ⟨small rfl, fun p0 w0 => ⟨_, rfl, _, rfl, ?_⟩⟩
      refine noPart (slA_of (tOver w0 (tSame e0 ha)) fun c0 K0 s0 h0 => ?_)
      have h0 : SqT K K0 c0 [.int c, .int w] := h0
      refine catA_of (tSame s0 tHere) h0 (small rfl) fun q0 G0 f0 r0 => ?_
      have r0 : SqT K G0 q0 [.str "paint", .int c, .int w] := r0
      have g0 := ((same_new w0).trans s0).trans f0
      have B1 := B0.step g0 (pbLook (B0.S.same g0) r0 rfl (lookU_of (.inr (.inr (.inr rfl)))) (lookB_paint))
      have e1 := e0.trans g0
      refine ⟨_, rfl, _, _, _, _, rfl, rfl, tSame e1 ha, at0, small rfl, fun p1 w1 => ⟨_, rfl, _, rfl, ?_⟩⟩
      refine noPart (slA_of (tOver w1 (tSame e1 ha)) fun c1 K1 s1 h1 => ?_)
      have h1 : SqT K K1 c1 [.int w] := h1
      refine catA_of (tSame s1 tHere) h1 (small rfl) fun q1 G1 f1 r1 => ?_
      have r1 : SqT K G1 q1 [V.str z, .int 0, .int w] := r1
      have g1 := ((same_new w1).trans s1).trans f1
      have B2 := B1.step g1 (pbLook (B1.S.same g1) r1 rfl (lookU_of (hz.elim (fun q => .inr (.inl q)) fun q => .inr (.inr (.inl q)))) (lookB_c (by decide)))
      have e2 := e1.trans g1
      refine ⟨_, rfl, _, _, _, _, rfl, rfl, tSame e2 ha, at0, small rfl, fun p2 w2 => ⟨_, rfl, _, rfl, ?_⟩⟩
      refine noPart (slA_of (tOver w2 (tSame e2 ha)) fun c2 K2 s2 h2 => ?_)
      have h2 : SqT K K2 c2 [.int w] := h2
      refine catA_of (tSame s2 tHere) h2 (small rfl) fun q2 G2 f2 r2 => ?_
      have r2 : SqT K G2 q2 [V.str z, .int 64, .int w] := r2
      have g2 := ((same_new w2).trans s2).trans f2
      have B3 := B2.step g2 (pbLook (B2.S.same g2) r2 rfl (lookU_of (hz.elim (fun q => .inr (.inl q)) fun q => .inr (.inr (.inl q)))) (lookB_c (by decide)))
      have e3 := e2.trans g2
      refine ⟨_, rfl, _, _, _, _, rfl, rfl, tSame e3 ha, at0, small rfl, fun p3 w3 => ⟨_, rfl, _, rfl, ?_⟩⟩
      refine noPart (slA_of (tOver w3 (tSame e3 ha)) fun c3 K3 s3 h3 => ?_)
      have h3 : SqT K K3 c3 [.int w] := h3
      refine catA_of (tSame s3 tHere) h3 (small rfl) fun q3 G3 f3 r3 => ?_
      have r3 : SqT K G3 q3 [V.str z, .bl true, .int w] := r3
      have g3 := ((same_new w3).trans s3).trans f3
      have B4 := B3.step g3 (pbLook (B3.S.same g3) r3 rfl (lookU_of (hz.elim (fun q => .inr (.inl q)) fun q => .inr (.inr (.inl q)))) (lookB_c (by decide)))
      have e4 := e3.trans g3
      refine ⟨_, rfl, small rfl, fun p4 w4 => ?_⟩
      refine catA_of (tOver w4 (tSame e4 ha)) tHere (small rfl) fun q4 G4 f4 r4 => ?_
      have r4 : SqT K G4 q4 [V.str z, .int c, .int w, .int 1] := r4
      have g4 := (same_new w4).trans f4
      have B5 := B4.step g4 (pbLook (B4.S.same g4) r4 rfl (lookU_of (hz.elim (fun q => .inr (.inl q)) fun q => .inr (.inr (.inl q)))) (rfl))
      have e5 := e4.trans g4
      refine ⟨_, rfl, _, rfl, ?_⟩
      refine slA_of (tSame e5 ha) fun q5 G5 g5 r5 => ?_
      have r5 : SqT K G5 q5 [V.str z] := r5
      have B6 := B5.step g5 (pbLook (B5.S.same g5) r5 rfl (lookU_of (hz.elim (fun q => .inr (.inl q)) fun q => .inr (.inr (.inl q)))) rfl)
      have e6 := e5.trans g5
      refine ⟨_, rfl, _, _, rfl, .inr (tSame e6 ha), fun q6 w6 => ?_⟩
      have n6 : q6 ≠ s := B6.S.new1 w6
      have B7 := B6.step (same_new (o := HO.lst [V.str z, .int c, .int w]) w6) (pbList upd_same n6)
      have e7 := e6.trans (same_new (o := HO.lst [V.str z, .int c, .int w]) w6)
      refine ⟨_, rfl, _, _, _, _, rfl, rfl, tSame e7 ha, at1, small rfl, fun q7 w7 => ?_⟩
      have B8 := B7.step (same_new (o := HO.tup [.str "stroke", .int c, .int 0]) w7) (pbLook (xs := [.str "stroke", .int c, .int 0]) (B7.S.over w7) tHere rfl (lookU_of (.inr (.inl rfl))) (lookB_w (by decide)))
      have e8 := e7.trans (same_new (o := HO.tup [.str "stroke", .int c, .int 0]) w7)
      refine ⟨_, rfl, _, _, _, _, rfl, rfl, tSame e8 ha, at1, small rfl, fun q8 w8 => ?_⟩
      have B9 := B8.step (same_new (o := HO.tup [.str "dot", .int c, .int 17]) w8) (pbLook (xs := [.str "dot", .int c, .int 17]) (B8.S.over w8) tHere rfl (lookU_of (.inr (.inr (.inl rfl)))) (lookB_w (by decide)))
      have e9 := e8.trans (same_new (o := HO.tup [.str "dot", .int c, .int 17]) w8)
      refine ⟨_, rfl, _, _, _, _, rfl, rfl, tSame e9 ha, at1, small rfl, fun q9 w9 => ?_⟩
      have B10 := B9.step (same_new (o := HO.tup [.str "stroke", .int c]) w9) (pbLook (xs := [.str "stroke", .int c]) (B9.S.over w9) tHere rfl (lookU_of (.inr (.inl rfl))) (lookB_s))
      have e10 := e9.trans (same_new (o := HO.tup [.str "stroke", .int c]) w9)
      refine ⟨_, rfl, _, _, _, _, rfl, rfl, tSame e10 ha, at1, small rfl, fun q10 w10 => ?_⟩
      have B11 := B10.step (same_new (o := HO.tup [.str "fill", .int c, .int 1]) w10) (pbLook (xs := [.str "fill", .int c, .int 1]) (B10.S.over w10) tHere rfl (lookU_of (.inl rfl)) (lookB_f))
      have e11 := e10.trans (same_new (o := HO.tup [.str "fill", .int c, .int 1]) w10)
      have B12 := B11.here (v := V.non) (fun _ _ => LV.no .non (by decide))
      refine ⟨small rfl, fun L wL => ?_⟩
      refine ⟨_, rfl, _, rfl, _, rfl, _, _, rfl, .inl ⟨_, lHere, rfl⟩, _, _, _, rfl, by show (0 : Int) < ((12 : Nat) : Int); decide, by show ((12 : Nat) : Int) < 2 ^ 200; decide, B12.S.over wL, fun d H5 d0 d1 S5 e5 => ?_⟩
      obtain ⟨v, hv, hm⟩ := atAny d0 d1
      exact ⟨_, _, _, _, rfl, rfl, SqL.of (rBut e5 wL B12.S), hv, k v _ ((B12.F v hm).but ((But.new wL).trans e5)) S5 ((B12.e.then_new wL).trans e5)⟩

theorem ok__law_bad_style (T : Txt K mg) (TB : TxtB T base w) : FnOk P w K mg base CX0 3 T.a__law_bad_style T.d__law_bad_style ["stream", "style"] (fun vs H Q _ => ∃ (s a : Addr) (rs : List Addr) (b : Addr), vs = [.ref s, .ref a] ∧ Strm H s b ∧ SqT K H a (rs.map V.ref) ∧ (∀ r ∈ rs, RuleE K H r) ∧ 1 ≤ rs.length ∧ rs.length ≤ 6 ∧ ∀ v H', StV K H' v false → Strm H' s b → But s H H' → Q v H') := by
  refine T.F__law_bad_style.ok sc__law_bad_style (fun vs H Q E h => ?_) (fun cdv A outer s H vs Q E hr h => ?_)
  · obtain ⟨s, a, rs, b, rfl, S, ha, hru, l1, l2, k⟩ := h
    rfl
  · obtain ⟨s, a, rs, b, rfl, S, ha, hru, l1, l2, k⟩ := h
    refine ⟨_, (pss_cons (ps_set (i := 2) sc__law_bad_style.nd rfl (Or.inl rfl) (pe_call (ok__law_next T TB) (hr.mono (by omega)) rfl T.m__law_next T.F__law_next.kp T.b__law_next .nil pass0 (pa_cons (pv 0) (pa_cons (pe_callB call_len (by rfl) T.n_len (by decide +kernel) (pa_cons (pv 1) pa_nil)) pa_nil))))
      (pss_cons (ps_asg (pe_ix (r := rIxT K) ix_tup (pv 1) (pv 2) (fun _ _ => rfl)) (pg_tup (by rfl) (pgs_cons (pg_name (i := 3) sc__law_bad_style.nd rfl (Or.inl rfl)) (pgs_cons (pg_name (i := 4) sc__law_bad_style.nd rfl (Or.inl rfl)) (pgs_cons (pg_name (i := 5) sc__law_bad_style.nd rfl (Or.inl rfl)) (pgs_cons (pg_name (i := 6) sc__law_bad_style.nd rfl (Or.inl rfl)) (pgs_cons (pg_name (i := 7) sc__law_bad_style.nd rfl (Or.inl rfl)) pgs_nil)))))))
      (pss_cons (ps_set (i := 8) sc__law_bad_style.nd rfl (Or.inl rfl) (pe_lst (pa_cons (pe_tup (pa_cons pe_str (pa_cons (pv 4) (pa_cons (pv 5) (pa_cons (pv 6) (pa_cons (pv 7) pa_nil)))))) (pa_cons (pe_tup (pa_cons pe_non (pa_cons (pv 4) (pa_cons (pv 5) (pa_cons (pv 6) (pa_cons (pv 7) pa_nil)))))) (pa_cons (pe_tup (pa_cons (pv 3) (pa_cons (pe_un un_neg pe_int) (pa_cons (pv 5) (pa_cons (pv 6) (pa_cons (pv 7) pa_nil)))))) (pa_cons (pe_tup (pa_cons (pv 3) (pa_cons (pv 4) (pa_cons pe_int (pa_cons (pv 6) (pa_cons (pv 7) pa_nil)))))) (pa_cons (pe_tup (pa_cons (pv 3) (pa_cons pe_int (pa_cons pe_int (pa_cons (pv 6) (pa_cons (pv 7) pa_nil)))))) (pa_cons (pe_tup (pa_cons (pv 3) (pa_cons (pv 4) (pa_cons (pv 5) (pa_cons pe_int (pa_cons (pv 7) pa_nil)))))) (pa_cons (pe_tup (pa_cons (pv 3) (pa_cons (pv 4) (pa_cons (pv 5) (pa_cons (pe_un un_neg pe_int) (pa_cons (pv 7) pa_nil)))))) (pa_cons (pe_tup (pa_cons (pv 3) (pa_cons (pv 4) (pa_cons (pv 5) (pa_cons (pv 6) (pa_cons (pe_call (ok__law_bad_look T TB) (hr.mono (by omega)) rfl T.m__law_bad_look T.F__law_bad_look.kp T.b__law_bad_look .nil pass0 (pa_cons (pv 0) (pa_cons (pv 7) pa_nil))) pa_nil)))))) (pa_cons (pe_tup (pa_cons (pv 3) (pa_cons (pv 4) (pa_cons (pv 5) (pa_cons (pv 6) pa_nil))))) (pa_cons (pe_tup (pa_cons (pv 3) (pa_cons pe_bl (pa_cons (pv 5) (pa_cons (pv 6) (pa_cons (pv 7) pa_nil)))))) (pa_cons (pe_lst (pa_cons (pv 3) (pa_cons (pv 4) (pa_cons (pv 5) (pa_cons (pv 6) (pa_cons (pv 7) pa_nil)))))) pa_nil)))))))))))))
      (pss_cons (ps_set (i := 9) sc__law_bad_style.nd rfl (Or.inl rfl) (pe_call (ok__law_next T TB) (hr.mono (by omega)) rfl T.m__law_next T.F__law_next.kp T.b__law_next .nil pass0 (pa_cons (pv 0) (pa_cons (pe_op op_add (pe_callB call_len (by rfl) T.n_len (by decide +kernel) (pa_cons (pv 8) pa_nil)) pe_int) pa_nil))))
      (pss_cons (ps_if (pt_cmpR op_eq (pv 9) (pe_callB call_len (by rfl) T.n_len (by decide +kernel) (pa_cons (pv 8) pa_nil)) (nomark _))
        (pss_one (ps_ret (pe_callTy call_list_of (by rfl) T.n_list (by decide +kernel) (pa_cons (pv 1) pa_nil))))
        pss_nil)
      (pss_cons (ps_if (pt_cmpR op_gt (pv 9) (pe_callB call_len (by rfl) T.n_len (by decide +kernel) (pa_cons (pv 8) pa_nil)) (nomark _))
        (pss_one (ps_ret (pe_slice sl_tupA (pe_op op_repT (pv 1) pe_int) po_none (po_some pe_int))))
        pss_nil)
      (pss_one (ps_ret (pe_op op_catA (pe_op op_catA (pe_slice sl_tupA (pv 1) po_none (po_some (pv 2))) (pe_tup (pa_cons (pe_ix (r := rIxL K) ix_list (pv 8) (pv 9) (fun _ _ => rfl)) pa_nil))) (pe_slice sl_tupA (pv 1) (po_some (pe_op op_add (pv 2) pe_int)) po_none)))))))))), ?_⟩
    refine ⟨_, rfl, _, rfl, _, _, rfl, .inr ⟨_, ha, rfl⟩, _, _, _, rfl, by rw [List.length_map]; omega, by rw [List.length_map]; omega, S, fun d H1 d0 d1 S1 e1 => ?_⟩
    rw [List.length_map] at d1
    obtain ⟨n, rfl⟩ : ∃ n : Nat, d = n := ⟨d.toNat, by omega⟩
    have ha1 := tButS e1 S ha
    obtain ⟨v, hv, hm⟩ := atAny (xs := rs.map V.ref) d0 (by rw [List.length_map]; exact d1)
    obtain ⟨r, hr1, rfl⟩ := List.mem_map.mp hm
    obtain ⟨kk, l, m, o, u, xs, hR⟩ := (hru r hr1).but e1 S
    have hk := (kind_ok hR.k).2
    refine ⟨_, rfl, _, rfl, _, _, _, _, rfl, rfl, ha1, hv, ?_⟩
    refine ⟨_, _, rfl, hR.r, rfl, _, _, rfl, _, _, rfl, _, _, rfl, _, _, rfl, _, _, rfl, rfl, ?_⟩
    have C0 : BL (RVf K) H H1 s b [] := ⟨S1, e1, fun _ h => by cases h⟩
    have g0 : PB (fun H v => LV K H v true) s H1 (.ref u) := pbGood S1 hR.u hR.look
    have E0 : But s H1 H1 := But.refl
    refine ⟨_, rfl, _, rfl, _, rfl, _, rfl, small rfl, fun q0 w0 => ?_⟩
    have C1 := C0.step (same_new (o := HO.tup [.str "Farm", .int l, .int m, .int o, .ref u]) w0) (pbRule (C0.S.over w0) tHere (Or.inr ⟨_, rfl, by decide +kernel⟩) (fun _ => ⟨_, .int _⟩) (fun _ => ⟨_, .int _⟩) (fun _ => ⟨_, .int _⟩) ((g0.but E0).but (But.new w0)) (.inl (by decide +kernel)))
    have E1 := E0.then_new (o := HO.tup [.str "Farm", .int l, .int m, .int o, .ref u]) w0
    refine ⟨_, rfl, _, rfl, _, rfl, _, rfl, small rfl, fun q1 w1 => ?_⟩
    have C2 := C1.step (same_new (o := HO.tup [.non, .int l, .int m, .int o, .ref u]) w1) (pbRule (C1.S.over w1) tHere (Or.inl rfl) (fun _ => ⟨_, .int _⟩) (fun _ => ⟨_, .int _⟩) (fun _ => ⟨_, .int _⟩) ((g0.but E1).but (But.new w1)) (.inl rfl))
    have E2 := E1.then_new (o := HO.tup [.non, .int l, .int m, .int o, .ref u]) w1
    refine ⟨_, rfl, _, rfl, _, rfl, _, rfl, _, rfl, small rfl, fun q2 w2 => ?_⟩
    have C3 := C2.step (same_new (o := HO.tup [.str kk, .int (-1), .int m, .int o, .ref u]) w2) (pbRule (C2.S.over w2) tHere (Or.inr ⟨kk, rfl, hk⟩) (fun _ => ⟨_, .int _⟩) (fun _ => ⟨_, .int _⟩) (fun _ => ⟨_, .int _⟩) ((g0.but E2).but (But.new w2)) (.inr (.inl (by decide))))
    have E3 := E2.then_new (o := HO.tup [.str kk, .int (-1), .int m, .int o, .ref u]) w2
    refine ⟨_, rfl, _, rfl, _, rfl, _, rfl, small rfl, fun q3 w3 => ?_⟩
    have C4 := C3.step (same_new (o := HO.tup [.str kk, .int l, .int 7, .int o, .ref u]) w3) (pbRule (C3.S.over w3) tHere (Or.inr ⟨kk, rfl, hk⟩) (fun _ => ⟨_, .int _⟩) (fun _ => ⟨_, .int _⟩) (fun _ => ⟨_, .int _⟩) ((g0.but E3).but (But.new w3)) (.inr (.inr (.inl (by decide)))))
    have E4 := E3.then_new (o := HO.tup [.str kk, .int l, .int 7, .int o, .ref u]) w3
    refine ⟨_, rfl, _, rfl, _, rfl, small rfl, fun q4 w4 => ?_⟩
    have C5 := C4.step (same_new (o := HO.tup [.str kk, .int 5, .int 4, .int o, .ref u]) w4) (pbRule (C4.S.over w4) tHere (Or.inr ⟨kk, rfl, hk⟩) (fun _ => ⟨_, .int _⟩) (fun _ => ⟨_, .int _⟩) (fun _ => ⟨_, .int _⟩) ((g0.but E4).but (But.new w4)) (.inr (.inr (.inr (.inl (by decide))))))
    have E5 := E4.then_new (o := HO.tup [.str kk, .int 5, .int 4, .int o, .ref u]) w4
    refine ⟨_, rfl, _, rfl, _, rfl, _, rfl, small rfl, fun q5 w5 => ?_⟩
    have C6 := C5.step (same_new (o := HO.tup [.str kk, .int l, .int m, .int 9, .ref u]) w5) (pbRule (C5.S.over w5) tHere (Or.inr ⟨kk, rfl, hk⟩) (fun _ => ⟨_, .int _⟩) (fun _ => ⟨_, .int _⟩) (fun _ => ⟨_, .int _⟩) ((g0.but E5).but (But.new w5)) (.inr (.inr (.inr (.inr (.inl (by decide)))))))
    have E6 := E5.then_new (o := HO.tup [.str kk, .int l, .int m, .int 9, .ref u]) w5
    refine ⟨_, rfl, _, rfl, _, rfl, _, rfl, _, rfl, small rfl, fun q6 w6 => ?_⟩
    have C7 := C6.step (same_new (o := HO.tup [.str kk, .int l, .int m, .int (-9), .ref u]) w6) (pbRule (C6.S.over w6) tHere (Or.inr ⟨kk, rfl, hk⟩) (fun _ => ⟨_, .int _⟩) (fun _ => ⟨_, .int _⟩) (fun _ => ⟨_, .int _⟩) ((g0.but E6).but (But.new w6)) (.inr (.inr (.inr (.inr (.inl (by decide)))))))
    have E7 := E6.then_new (o := HO.tup [.str kk, .int l, .int m, .int (-9), .ref u]) w6
    refine ⟨_, rfl, _, rfl, _, rfl, _, rfl, _, rfl, _, rfl, _, _, _, _, rfl, C7.S, tButS E7 S1 hR.u, hR.look, fun v H8 hv8 S8 e8 => ?_⟩
    replace C7 := C7.go e8 S8
    replace E7 := E7.trans e8
    refine ⟨small rfl, fun q7 w7 => ?_⟩
    have C8 := C7.step (same_new (o := HO.tup [.str kk, .int l, .int m, .int o, v]) w7) (pbRule (C7.S.over w7) tHere (Or.inr ⟨kk, rfl, hk⟩) (fun _ => ⟨_, .int _⟩) (fun _ => ⟨_, .int _⟩) (fun _ => ⟨_, .int _⟩) (hv8.but (But.new w7)) (.inr (.inr (.inr (.inr (.inr rfl))))))
    have E8 := E7.then_new (o := HO.tup [.str kk, .int l, .int m, .int o, v]) w7
    refine ⟨_, rfl, _, rfl, _, rfl, _, rfl, small rfl, fun q8 w8 => ?_⟩
    have C9 := C8.step (same_new (o := HO.tup [.str kk, .int l, .int m, .int o]) w8) (fun H' q => RV.four (tButS q (C8.S.over w8) tHere) (by simp))
    have E9 := E8.then_new (o := HO.tup [.str kk, .int l, .int m, .int o]) w8
    refine ⟨_, rfl, _, rfl, _, rfl, _, rfl, small rfl, fun q9 w9 => ?_⟩
    have C10 := C9.step (same_new (o := HO.tup [.str kk, .bl true, .int m, .int o, .ref u]) w9) (pbRule (C9.S.over w9) tHere (Or.inr ⟨kk, rfl, hk⟩) (fun _ => ⟨_, .bl _⟩) (fun _ => ⟨_, .int _⟩) (fun _ => ⟨_, .int _⟩) ((g0.but E9).but (But.new w9)) (.inr (.inl rfl)))
    have E10 := E9.then_new (o := HO.tup [.str kk, .bl true, .int m, .int o, .ref u]) w9
    refine ⟨_, rfl, _, rfl, _, rfl, _, rfl, _, rfl, small rfl, fun q10 w10 => ?_⟩
    have C11 := C10.step (same_new (o := HO.lst [.str kk, .int l, .int m, .int o, .ref u]) w10) (pbListR upd_same (C10.S.new1 w10))
    have E11 := E10.then_new (o := HO.lst [.str kk, .int l, .int m, .int o, .ref u]) w10
    refine ⟨small rfl, fun L wL => ?_⟩
    
    refine ⟨_, rfl, _, rfl, _, _, rfl, .inl ⟨_, lHere, rfl⟩, _, _, rfl, rfl, _, _, _, rfl, by show (0 : Int) < ((11 : Nat) : Int) + 2; decide, by show ((11 : Nat) : Int) + 2 < 2 ^ 200; decide, C11.S.over wL, fun pk H9 p0 p1 S9 e9 => ?_⟩
    have p1 : pk < 13 := p1
    have hL := rBut e9 wL C11.S
    have D := (C11.over wL).go e9 S9
    have F := (E11.then_new wL).trans e9
    have ha9 := tButS F S1 ha1
    have hr9 := fun r h => (hru r h).but D.e S
    refine ⟨_, rfl, _, rfl, _, _, rfl, .inl ⟨_, SqL.of hL, rfl⟩, rfl, _, rfl, ?_⟩
    refine ifD (fun x1 => ?_) (fun x1 => ?_)
    · exact ⟨_, rfl, _, _, rfl, .inr ha9, fun p hp => k _ _ (StV.no (.lst (SqL.of upd_same)) (by decide)) (S9.over hp) (D.e.then_new hp)⟩
    refine ⟨_, rfl, _, rfl, _, _, rfl, .inl ⟨_, SqL.of hL, rfl⟩, _, _, rfl, rfl, _, rfl, ?_⟩
    refine ifD (fun x2 => ?_) (fun x2 => ?_)
    · have ne : rs.map V.ref ≠ [] := fun z => by
        have := congrArg List.length z
        rw [List.length_map] at this
        have : rs.length = 0 := this
        omega
      refine ⟨_, rfl, _, _, _, rfl, rfl, ha9, ne, by decide, by decide, by rw [List.length_map]; omega, fun m13 h13 => ?_⟩
      have flat : (List.replicate (Int.toNat 13) (rs.map V.ref)).flatten = (List.replicate 13 rs).flatten.map V.ref := by rw [List.map_flatten, List.map_replicate]; rfl
      rw [flat]
      have mem13 : ∀ r ∈ (List.replicate 13 rs).flatten, r ∈ rs := fun r h => by
        obtain ⟨l, h1, h2⟩ := List.mem_flatten.mp h
        rw [List.eq_of_mem_replicate h1] at h2
        exact h2
      have len13 : (List.replicate 13 rs).flatten.length = 13 * rs.length := by simp; omega
      generalize (List.replicate 13 rs).flatten = us at mem13 len13 ⊢
      refine ⟨_, rfl, ?_⟩
      refine slA_of tHere fun q G s6 hq => ?_
      have cut : cutV (us.map V.ref) none (some 13) = (us.take 13).map V.ref := by rw [show ((13 : Int)) = ((13 : Nat) : Int) from rfl, cut_take, List.map_take]
      rw [cut] at hq
      have s7 := (same_new (o := HO.tup (us.map V.ref)) h13).trans s6
      exact k _ _ (.many hq (fun r h => (hr9 r (mem13 r (List.mem_of_mem_take h))).same s7) (by rw [List.length_take]; omega) (by rw [List.length_take]; omega)) (S9.same s7) (D.e.then_same s7)
    have x1 : pk ≠ 11 := fun z => x1 (by rw [z]; rfl)
    have x2 : ¬ (11 < pk) := x2
    obtain ⟨v2, hv2, hm2⟩ := atAny (xs := [V.ref q0, V.ref q1, V.ref q2, V.ref q3, V.ref q4, V.ref q5, V.ref q6, V.ref q7, V.ref q8, V.ref q9, V.ref q10]) p0 (by show pk < 11; omega)
    have big : 1000 ≤ sizeLine := by decide
    refine ⟨_, rfl, _, rfl, _, rfl, ?_⟩
    refine slA_of ha9 fun c G1 s1 hc => ?_
    rw [cut_take, ← List.map_take] at hc
    refine ⟨_, rfl, _, rfl, _, _, _, _, rfl, rfl, SqL.of (s1.get hL), hv2, small rfl, fun t wt => ?_⟩
    refine catA_of (tOver wt hc) tHere (by rw [List.length_map, List.length_take]; show _ + 1 ≤ _; omega) fun q G2 s2 hq => ?_
    have s12 := (s1.trans (same_new (o := HO.tup [v2]) wt)).trans s2
    refine ⟨_, rfl, _, rfl, _, _, rfl, rfl, _, rfl, ?_⟩
    refine noPart (slA_of (tSame s12 ha9) fun c3 G3 s3 hc3 => ?_)
    rw [show ((n : Int) + 1) = ((n + 1 : Nat) : Int) from rfl, cut_drop, ← List.map_drop] at hc3
    refine catA_of (tSame s3 hq) hc3 (by rw [List.length_append, List.length_map, List.length_take, List.length_map, List.length_drop]; show _ + 1 + _ ≤ _; omega) fun q4 G4 s4 hq4 => ?_
    have s14 := (s12.trans s3).trans s4
    rw [List.append_assoc] at hq4
    exact k _ _ (.bad (us := rs.take n) (ws := rs.drop (n + 1)) hq4 (fun r h => (hr9 r (List.mem_of_mem_take h)).same s14) (D.F v2 hm2 _ (But.of_same s14)) (fun r h => (hr9 r (List.mem_of_mem_drop h)).same s14) (by rw [List.length_take, List.length_drop]; omega)) (S9.same s14) (D.e.then_same s14)

theorem ok_law (T : Txt K mg) (TB : TxtB T base w) : FnOk P w K mg base CX0 10 T.a_law T.d_law ["script"] (spLawT K T.ts) := by
  refine T.F_law.ok sc_law (fun vs H Q E h => ?_) (fun cdv A outer s H vs Q E hr h => ?_)
  · obtain ⟨w0, ns, rfl, hS, hlen, tb, k⟩ := h
    rfl
  · obtain ⟨w0, ns, rfl, hS, hlen, tb, k⟩ := h
    refine ⟨_, (pss_cons (ps_set (i := 1) sc_law.nd rfl (Or.inl rfl) (pe_call (ok__law_stream T TB) (hr.mono (by omega)) rfl T.m__law_stream T.F__law_stream.kp T.b__law_stream .nil pass0 (pa_cons (pv 0) pa_nil)))
      (pss_cons (ps_set (i := 2) sc_law.nd rfl (Or.inl rfl) (pe_call (ok__law_look T TB) (hr.mono (by omega)) rfl T.m__law_look T.F__law_look.kp T.b__law_look .nil pass0 (pa_cons (pv 1) pa_nil)))
      (pss_cons (ps_set (i := 3) sc_law.nd rfl (Or.inl rfl) (pe_call (ok__law_style T TB) (hr.mono (by omega)) rfl T.m__law_style T.F__law_style.kp T.b__law_style .nil pass0 (pa_cons (pv 1) (pa_cons pe_int pa_nil))))
      (pss_cons (ps_if (PW.pt (pw_or (pt_cmpR op_isnot_bl (pe_call (ok_is_look T TB) (hr.mono (by omega)) rfl T.m_is_look T.F_is_look.kp T.b_is_look .nil pass0 (pa_cons (pv 2) pa_nil)) pe_bl (nomark _)) (pw_or (pt_cmpR op_isnot_bl (pe_call (ok_is_style T TB) (hr.mono (by omega)) rfl T.m_is_style T.F_is_style.kp T.b_is_style .nil pass0 (pa_cons (pv 3) pa_nil)) pe_bl (nomark _)) (pw_or1 (pt_cmpR op_isnot_bl (pe_call (ok_is_style T TB) (hr.mono (by omega)) rfl T.m_is_style T.F_is_style.kp T.b_is_style .nil pass0 (pa_cons (pe_tup pa_nil) pa_nil)) pe_bl (nomark _))))))
        (pss_one (ps_ret pe_bl))
        pss_nil)
      (pss_cons (ps_if (pt_cmpR op_isnot_bl (pe_call (ok_is_style T TB) (hr.mono (by omega)) rfl T.m_is_style T.F_is_style.kp T.b_is_style .nil pass0 (pa_cons (pe_slice sl_tupA (pe_op op_repT (pv 3) pe_int) po_none (po_some pe_int)) pa_nil)) pe_bl (nomark _))
        (pss_one (ps_ret pe_bl))
        pss_nil)
      (pss_one (ps_ret (pe_and (pe_cmpR op_is_bl (pe_call (ok_is_look T TB) (hr.mono (by omega)) rfl T.m_is_look T.F_is_look.kp T.b_is_look .nil pass0 (pa_cons (pe_call (ok__law_bad_look T TB) (hr.mono (by omega)) rfl T.m__law_bad_look T.F__law_bad_look.kp T.b__law_bad_look .nil pass0 (pa_cons (pv 1) (pa_cons (pv 2) pa_nil))) pa_nil)) pe_bl (nomark _)) (pe_one (pe_cmpR op_is_bl (pe_call (ok_is_style T TB) (hr.mono (by omega)) rfl T.m_is_style T.F_is_style.kp T.b_is_style .nil pass0 (pa_cons (pe_call (ok__law_bad_style T TB) (hr.mono (by omega)) rfl T.m__law_bad_style T.F__law_bad_style.kp T.b__law_bad_style .nil pass0 (pa_cons (pv 1) (pa_cons (pv 3) pa_nil))) pa_nil)) pe_bl (nomark _))))))))))), ?_⟩
    refine ⟨_, rfl, _, ns, rfl, hS, fun H1 s b e1 n1 S1 => ?_⟩
    have tb := tb.same e1
    refine ⟨_, rfl, _, _, rfl, S1, fun la xs H2 lk hla S2 B2 => ?_⟩
    have tb := tb.but B2 S1.lst
    refine ⟨_, rfl, _, _, _, rfl, by decide, by decide, S2, fun st rs H3 hst hr l1 l2 S3 B3 => ?_⟩
    have tb := tb.but B3 S2.lst
    have hla := tButS B3 S2 hla
    refine ⟨_, rfl, _, _, rfl, .good hla lk, _, _, rfl, rfl, _, rfl, ifFa rfl ?_⟩
    refine ⟨_, rfl, _, _, rfl, .good hst hr (by omega), tb, fun H4 s4 => ⟨_, _, rfl, rfl, _, rfl, ifFa rfl ?_⟩⟩
    have tb := tb.same s4
    refine ⟨small rfl, fun e0 he0 => ⟨_, _, rfl, .good (rs := []) tHere (fun r h => by cases h) (by simp), tb.over he0, fun H5 s5 => ⟨_, _, rfl, rfl, _, rfl, ifFa rfl ?_⟩⟩⟩
    have s45 := (same_new (o := HO.tup []) he0).trans s5
    have tb := tb.same s45
    have hst := tSame (s4.trans s45) hst
    have hla := tSame (s4.trans s45) hla
    have hr := fun r h => (hr r h).same (s4.trans s45)
    have S5 := S3.same (s4.trans s45)
    have ne : rs.map V.ref ≠ [] := fun z => by
      have := congrArg List.length z
      simp at this
      rw [this] at l1
      simp at l1
    refine ⟨_, rfl, _, _, _, rfl, rfl, hst, ne, by decide, by decide, by rw [List.length_map]; omega, fun m12 h12 => ?_⟩
    have flat : (List.replicate (Int.toNat 12) (rs.map V.ref)).flatten = (List.replicate 12 rs).flatten.map V.ref := by rw [List.map_flatten, List.map_replicate]; rfl
    rw [flat]
    have mem12 : ∀ r ∈ (List.replicate 12 rs).flatten, r ∈ rs := fun r h => by
      obtain ⟨l, h1, h2⟩ := List.mem_flatten.mp h
      rw [List.eq_of_mem_replicate h1] at h2
      exact h2
    have len12 : (List.replicate 12 rs).flatten.length = 12 * rs.length := by simp; omega
    generalize (List.replicate 12 rs).flatten = us at mem12 len12 ⊢
    refine ⟨_, rfl, ?_⟩
    refine slA_of tHere fun q H6 s6 hq => ?_
    have cut : cutV (us.map V.ref) none (some 12) = (us.take 12).map V.ref := by rw [show ((12 : Int)) = ((12 : Nat) : Int) from rfl, cut_take, List.map_take]
    rw [cut] at hq
    have s56 := (same_new (o := HO.tup (us.map V.ref)) h12).trans s6
    refine ⟨_, _, rfl, .good hq (fun r h => (hr r (mem12 r (List.mem_of_mem_take h))).same s56) (by rw [List.length_take]; omega), tb.same s56, fun H7 s7 => ⟨_, _, rfl, rfl, _, rfl, ifFa rfl ?_⟩⟩
    have s57 := s56.trans s7
    have S7 := S5.same s57
    have tb := tb.same s57
    refine ⟨_, rfl, _, rfl, _, _, _, _, rfl, S7, tSame s57 hla, lk, fun v H8 hv S8 B8 => ⟨_, _, rfl, hv.here, _, _, rfl, rfl, _, rfl, iteT ?_⟩⟩
    refine ⟨_, rfl, _, rfl, _, _, _, _, rfl, S8, tButS B8 S7 (tSame s57 hst), (fun r h => ((hr r h).same s57).but B8 S7), by omega, by omega, fun v H9 hv S9 B9 => ⟨_, _, rfl, hv, (tb.but B8 S7.lst).but B9 S8.lst, fun H10 s10 => ⟨_, _, rfl, rfl, ?_⟩⟩⟩
    exact k _

end
theorem all_mk {l : PySem.W.OpenLaw} {w : World} {K : PySem.W.Frag} {h : Heap} {mg : Str → Option Value} {fa : Addr} {q : Program} (X : K.In h) (G : h.Ns mainGlobals mg) (hfa : mg "law" = some (.ref fa)) (TQ : TabsOf q K h)
    {od_is_whole an_is_whole : Option Addr} {sl_is_whole : Array (Option Value)} {oc_is_whole kV_is_whole dc_is_whole pm_is_whole cd_is_whole ct_is_whole : Value} {f_is_whole : Addr}
    (a_is_whole : PySem.W.nsIn K mainGlobals "is_whole" = some (some (.ref f_is_whole)))
    (l_is_whole : K.lookup f_is_whole = some ⟨oc_is_whole, od_is_whole, .func (PySem.W.fnOf "is_whole" "is_whole" (defArgs s_is_whole) (defBody s_is_whole) (defScope s_is_whole) .none kV_is_whole dc_is_whole pm_is_whole an_is_whole cd_is_whole ct_is_whole), sl_is_whole⟩)
    (c_is_whole : PySem.W.codeIn K cd_is_whole "is_whole" = true) (k_is_whole : PySem.W.keepIn K (.ref f_is_whole) = true)
    {od_is_between an_is_between : Option Addr} {sl_is_between : Array (Option Value)} {oc_is_between kV_is_between dc_is_between pm_is_between cd_is_between ct_is_between : Value} {f_is_between : Addr}
    (a_is_between : PySem.W.nsIn K mainGlobals "is_between" = some (some (.ref f_is_between)))
    (l_is_between : K.lookup f_is_between = some ⟨oc_is_between, od_is_between, .func (PySem.W.fnOf "is_between" "is_between" (defArgs s_is_between) (defBody s_is_between) (defScope s_is_between) .none kV_is_between dc_is_between pm_is_between an_is_between cd_is_between ct_is_between), sl_is_between⟩)
    (c_is_between : PySem.W.codeIn K cd_is_between "is_between" = true) (k_is_between : PySem.W.keepIn K (.ref f_is_between) = true)
    {od_is_name an_is_name : Option Addr} {sl_is_name : Array (Option Value)} {oc_is_name kV_is_name dc_is_name pm_is_name cd_is_name ct_is_name : Value} {f_is_name : Addr}
    (a_is_name : PySem.W.nsIn K mainGlobals "is_name" = some (some (.ref f_is_name)))
    (l_is_name : K.lookup f_is_name = some ⟨oc_is_name, od_is_name, .func (PySem.W.fnOf "is_name" "is_name" (defArgs s_is_name) (defBody s_is_name) (defScope s_is_name) .none kV_is_name dc_is_name pm_is_name an_is_name cd_is_name ct_is_name), sl_is_name⟩)
    (c_is_name : PySem.W.codeIn K cd_is_name "is_name" = true) (k_is_name : PySem.W.keepIn K (.ref f_is_name) = true)
    {od_is_scale an_is_scale : Option Addr} {sl_is_scale : Array (Option Value)} {oc_is_scale kV_is_scale dc_is_scale pm_is_scale cd_is_scale ct_is_scale : Value} {f_is_scale : Addr}
    (a_is_scale : PySem.W.nsIn K mainGlobals "is_scale" = some (some (.ref f_is_scale)))
    (l_is_scale : K.lookup f_is_scale = some ⟨oc_is_scale, od_is_scale, .func (PySem.W.fnOf "is_scale" "is_scale" (defArgs s_is_scale) (defBody s_is_scale) (defScope s_is_scale) .none kV_is_scale dc_is_scale pm_is_scale an_is_scale cd_is_scale ct_is_scale), sl_is_scale⟩)
    (c_is_scale : PySem.W.codeIn K cd_is_scale "is_scale" = true) (k_is_scale : PySem.W.keepIn K (.ref f_is_scale) = true)
    {od_is_look an_is_look : Option Addr} {sl_is_look : Array (Option Value)} {oc_is_look kV_is_look dc_is_look pm_is_look cd_is_look ct_is_look : Value} {f_is_look : Addr}
    (a_is_look : PySem.W.nsIn K mainGlobals "is_look" = some (some (.ref f_is_look)))
    (l_is_look : K.lookup f_is_look = some ⟨oc_is_look, od_is_look, .func (PySem.W.fnOf "is_look" "is_look" (defArgs s_is_look) (defBody s_is_look) (defScope s_is_look) .none kV_is_look dc_is_look pm_is_look an_is_look cd_is_look ct_is_look), sl_is_look⟩)
    (c_is_look : PySem.W.codeIn K cd_is_look "is_look" = true) (k_is_look : PySem.W.keepIn K (.ref f_is_look) = true)
    {od_is_rule an_is_rule : Option Addr} {sl_is_rule : Array (Option Value)} {oc_is_rule kV_is_rule dc_is_rule pm_is_rule cd_is_rule ct_is_rule : Value} {f_is_rule : Addr}
    (a_is_rule : PySem.W.nsIn K mainGlobals "is_rule" = some (some (.ref f_is_rule)))
    (l_is_rule : K.lookup f_is_rule = some ⟨oc_is_rule, od_is_rule, .func (PySem.W.fnOf "is_rule" "is_rule" (defArgs s_is_rule) (defBody s_is_rule) (defScope s_is_rule) .none kV_is_rule dc_is_rule pm_is_rule an_is_rule cd_is_rule ct_is_rule), sl_is_rule⟩)
    (c_is_rule : PySem.W.codeIn K cd_is_rule "is_rule" = true) (k_is_rule : PySem.W.keepIn K (.ref f_is_rule) = true)
    {od_is_style an_is_style : Option Addr} {sl_is_style : Array (Option Value)} {oc_is_style kV_is_style dc_is_style pm_is_style cd_is_style ct_is_style : Value} {f_is_style : Addr}
    (a_is_style : PySem.W.nsIn K mainGlobals "is_style" = some (some (.ref f_is_style)))
    (l_is_style : K.lookup f_is_style = some ⟨oc_is_style, od_is_style, .func (PySem.W.fnOf "is_style" "is_style" (defArgs s_is_style) (defBody s_is_style) (defScope s_is_style) .none kV_is_style dc_is_style pm_is_style an_is_style cd_is_style ct_is_style), sl_is_style⟩)
    (c_is_style : PySem.W.codeIn K cd_is_style "is_style" = true) (k_is_style : PySem.W.keepIn K (.ref f_is_style) = true)
    {od__law_stream an__law_stream : Option Addr} {sl__law_stream : Array (Option Value)} {oc__law_stream kV__law_stream dc__law_stream pm__law_stream cd__law_stream ct__law_stream : Value} {f__law_stream : Addr}
    (a__law_stream : PySem.W.nsIn K mainGlobals "_law_stream" = some (some (.ref f__law_stream)))
    (l__law_stream : K.lookup f__law_stream = some ⟨oc__law_stream, od__law_stream, .func (PySem.W.fnOf "_law_stream" "_law_stream" (defArgs s__law_stream) (defBody s__law_stream) (defScope s__law_stream) .none kV__law_stream dc__law_stream pm__law_stream an__law_stream cd__law_stream ct__law_stream), sl__law_stream⟩)
    (c__law_stream : PySem.W.codeIn K cd__law_stream "_law_stream" = true) (k__law_stream : PySem.W.keepIn K (.ref f__law_stream) = true)
    {od__law_next an__law_next : Option Addr} {sl__law_next : Array (Option Value)} {oc__law_next kV__law_next dc__law_next pm__law_next cd__law_next ct__law_next : Value} {f__law_next : Addr}
    (a__law_next : PySem.W.nsIn K mainGlobals "_law_next" = some (some (.ref f__law_next)))
    (l__law_next : K.lookup f__law_next = some ⟨oc__law_next, od__law_next, .func (PySem.W.fnOf "_law_next" "_law_next" (defArgs s__law_next) (defBody s__law_next) (defScope s__law_next) .none kV__law_next dc__law_next pm__law_next an__law_next cd__law_next ct__law_next), sl__law_next⟩)
    (c__law_next : PySem.W.codeIn K cd__law_next "_law_next" = true) (k__law_next : PySem.W.keepIn K (.ref f__law_next) = true)
    {od__law_look an__law_look : Option Addr} {sl__law_look : Array (Option Value)} {oc__law_look kV__law_look dc__law_look pm__law_look cd__law_look ct__law_look : Value} {f__law_look : Addr}
    (a__law_look : PySem.W.nsIn K mainGlobals "_law_look" = some (some (.ref f__law_look)))
    (l__law_look : K.lookup f__law_look = some ⟨oc__law_look, od__law_look, .func (PySem.W.fnOf "_law_look" "_law_look" (defArgs s__law_look) (defBody s__law_look) (defScope s__law_look) .none kV__law_look dc__law_look pm__law_look an__law_look cd__law_look ct__law_look), sl__law_look⟩)
    (c__law_look : PySem.W.codeIn K cd__law_look "_law_look" = true) (k__law_look : PySem.W.keepIn K (.ref f__law_look) = true)
    {od__law_style an__law_style : Option Addr} {sl__law_style : Array (Option Value)} {oc__law_style kV__law_style dc__law_style pm__law_style cd__law_style ct__law_style : Value} {f__law_style : Addr}
    (a__law_style : PySem.W.nsIn K mainGlobals "_law_style" = some (some (.ref f__law_style)))
    (l__law_style : K.lookup f__law_style = some ⟨oc__law_style, od__law_style, .func (PySem.W.fnOf "_law_style" "_law_style" (defArgs s__law_style) (defBody s__law_style) (defScope s__law_style) .none kV__law_style dc__law_style pm__law_style an__law_style cd__law_style ct__law_style), sl__law_style⟩)
    (c__law_style : PySem.W.codeIn K cd__law_style "_law_style" = true) (k__law_style : PySem.W.keepIn K (.ref f__law_style) = true)
    {od__law_bad_look an__law_bad_look : Option Addr} {sl__law_bad_look : Array (Option Value)} {oc__law_bad_look kV__law_bad_look dc__law_bad_look pm__law_bad_look cd__law_bad_look ct__law_bad_look : Value} {f__law_bad_look : Addr}
    (a__law_bad_look : PySem.W.nsIn K mainGlobals "_law_bad_look" = some (some (.ref f__law_bad_look)))
    (l__law_bad_look : K.lookup f__law_bad_look = some ⟨oc__law_bad_look, od__law_bad_look, .func (PySem.W.fnOf "_law_bad_look" "_law_bad_look" (defArgs s__law_bad_look) (defBody s__law_bad_look) (defScope s__law_bad_look) .none kV__law_bad_look dc__law_bad_look pm__law_bad_look an__law_bad_look cd__law_bad_look ct__law_bad_look), sl__law_bad_look⟩)
    (c__law_bad_look : PySem.W.codeIn K cd__law_bad_look "_law_bad_look" = true) (k__law_bad_look : PySem.W.keepIn K (.ref f__law_bad_look) = true)
    {od__law_bad_style an__law_bad_style : Option Addr} {sl__law_bad_style : Array (Option Value)} {oc__law_bad_style kV__law_bad_style dc__law_bad_style pm__law_bad_style cd__law_bad_style ct__law_bad_style : Value} {f__law_bad_style : Addr}
    (a__law_bad_style : PySem.W.nsIn K mainGlobals "_law_bad_style" = some (some (.ref f__law_bad_style)))
    (l__law_bad_style : K.lookup f__law_bad_style = some ⟨oc__law_bad_style, od__law_bad_style, .func (PySem.W.fnOf "_law_bad_style" "_law_bad_style" (defArgs s__law_bad_style) (defBody s__law_bad_style) (defScope s__law_bad_style) .none kV__law_bad_style dc__law_bad_style pm__law_bad_style an__law_bad_style cd__law_bad_style ct__law_bad_style), sl__law_bad_style⟩)
    (c__law_bad_style : PySem.W.codeIn K cd__law_bad_style "_law_bad_style" = true) (k__law_bad_style : PySem.W.keepIn K (.ref f__law_bad_style) = true)
    {od_law an_law : Option Addr} {sl_law : Array (Option Value)} {oc_law kV_law dc_law pm_law cd_law ct_law : Value} {f_law : Addr}
    (a_law : PySem.W.nsIn K mainGlobals "law" = some (some (.ref f_law)))
    (l_law : K.lookup f_law = some ⟨oc_law, od_law, .func (PySem.W.fnOf "law" "law" (defArgs s_law) (defBody s_law) (defScope s_law) .none kV_law dc_law pm_law an_law cd_law ct_law), sl_law⟩)
    (c_law : PySem.W.codeIn K cd_law "law" = true) (k_law : PySem.W.keepIn K (.ref f_law) = true)
    (z_abs : PySem.W.nsIn K mainGlobals "abs" = some none)
    (z_all : PySem.W.nsIn K mainGlobals "all" = some none)
    (z_bool : PySem.W.nsIn K mainGlobals "bool" = some none)
    (z_int : PySem.W.nsIn K mainGlobals "int" = some none)
    (z_isinstance : PySem.W.nsIn K mainGlobals "isinstance" = some none)
    (z_len : PySem.W.nsIn K mainGlobals "len" = some none)
    (z_list : PySem.W.nsIn K mainGlobals "list" = some none)
    (z_min : PySem.W.nsIn K mainGlobals "min" = some none)
    (z_range : PySem.W.nsIn K mainGlobals "range" = some none)
    (z_str : PySem.W.nsIn K mainGlobals "str" = some none)
    (z_tuple : PySem.W.nsIn K mainGlobals "tuple" = some none)
    {t_DIGITS : Tok} (v_DIGITS : PySem.W.nsIn K mainGlobals "DIGITS" = some (some (.str "0123456789" t_DIGITS)))
    {t_HIGHEST_SCALE : Tok} (v_HIGHEST_SCALE : PySem.W.nsIn K mainGlobals "HIGHEST_SCALE" = some (some (.int (6) t_HIGHEST_SCALE)))
    {t_LETTERS : Tok} (v_LETTERS : PySem.W.nsIn K mainGlobals "LETTERS" = some (some (.str "abcdefghijklmnopqrstuvwxyz" t_LETTERS)))
    {t_MOST_COLOUR : Tok} (v_MOST_COLOUR : PySem.W.nsIn K mainGlobals "MOST_COLOUR" = some (some (.int (63) t_MOST_COLOUR)))
    {t_MOST_OF_NAME : Tok} (v_MOST_OF_NAME : PySem.W.nsIn K mainGlobals "MOST_OF_NAME" = some (some (.int (12) t_MOST_OF_NAME)))
    {t_MOST_ORDER : Tok} (v_MOST_ORDER : PySem.W.nsIn K mainGlobals "MOST_ORDER" = some (some (.int (8) t_MOST_ORDER)))
    {t_MOST_RULES : Tok} (v_MOST_RULES : PySem.W.nsIn K mainGlobals "MOST_RULES" = some (some (.int (12) t_MOST_RULES)))
    {t_MOST_WIDTH : Tok} (v_MOST_WIDTH : PySem.W.nsIn K mainGlobals "MOST_WIDTH" = some (some (.int (16) t_MOST_WIDTH)))
    {a_F : Addr} {es_F : Array DictEntry} {n_F : Nat} (g_F : PySem.W.nsIn K mainGlobals "FITS" = some (some (.ref a_F)))
    (at_F : K.lookup a_F = some ⟨.type "dict", none, .dict es_F n_F, #[]⟩) (lit_F : PySem.W.KeysLit w.params es_F.toList) (low_F : (a_F == sysModules) = false)
    (q1_F : ∃ u, PySem.W.nsIn K a_F "fill" = some (some u)) (q2_F : ∃ u, PySem.W.nsIn K a_F "stroke" = some (some u)) (q3_F : ∃ u, PySem.W.nsIn K a_F "dot" = some (some u)) (q4_F : PySem.W.nsIn K a_F "paint" = some none)
    {cc_is_name P_is_name : Addr} {t1_is_name : Value} {t2_is_name : Option Addr} {t3_is_name : Array (Option Value)} {vs_is_name : Array Value}
    (e_is_name : cd_is_name = .ref cc_is_name) (o_is_name : K.lookup cc_is_name = some ⟨t1_is_name, t2_is_name, .fields vs_is_name, t3_is_name⟩) (v_is_name : (vs_is_name[11]? : Option Value) = some (.ref P_is_name)) (nl_is_name : K.lookup P_is_name = none)
    (rc_is_name : ((PyProof.Rows.recsOf q).any fun e => e.name == ("is_name" : Str)) = true)
    {cc_is_style P_is_style : Addr} {t1_is_style : Value} {t2_is_style : Option Addr} {t3_is_style : Array (Option Value)} {vs_is_style : Array Value}
    (e_is_style : cd_is_style = .ref cc_is_style) (o_is_style : K.lookup cc_is_style = some ⟨t1_is_style, t2_is_style, .fields vs_is_style, t3_is_style⟩) (v_is_style : (vs_is_style[11]? : Option Value) = some (.ref P_is_style)) (nl_is_style : K.lookup P_is_style = none)
    (rc_is_style : ((PyProof.Rows.recsOf q).any fun e => e.name == ("is_style" : Str)) = true)
    : LamX.LawAtS l w K CX0 10 63 "script" mg fa h := by
  have e := hfa.symm.trans (PySem.W.mg_of X G a_law)
  cases e
  let T : Txt K mg := {
    a_is_whole := f_is_whole, d_is_whole := _, F_is_whole := fun_mk (st := s_is_whole) l_is_whole c_is_whole k_is_whole, m_is_whole := PySem.W.mg_of X G a_is_whole,
    b_is_whole := (fun_mk (st := s_is_whole) l_is_whole c_is_whole k_is_whole).binds (ps := ["value"]) fun _ _ _ _ _ _ us hl => match us, hl with | [_], _ => rfl,
    a_is_between := f_is_between, d_is_between := _, F_is_between := fun_mk (st := s_is_between) l_is_between c_is_between k_is_between, m_is_between := PySem.W.mg_of X G a_is_between,
    b_is_between := (fun_mk (st := s_is_between) l_is_between c_is_between k_is_between).binds (ps := ["value", "least", "most"]) fun _ _ _ _ _ _ us hl => match us, hl with | [_, _, _], _ => rfl,
    a_is_name := f_is_name, d_is_name := _, cc_is_name := cc_is_name, P_is_name := P_is_name, F_is_name := funT_mk (st := s_is_name) l_is_name c_is_name k_is_name e_is_name, m_is_name := PySem.W.mg_of X G a_is_name,
    b_is_name := (fun_mk (st := s_is_name) l_is_name c_is_name k_is_name).binds (ps := ["value"]) fun _ _ _ _ _ _ us hl => match us, hl with | [_], _ => rfl,
    a_is_scale := f_is_scale, d_is_scale := _, F_is_scale := fun_mk (st := s_is_scale) l_is_scale c_is_scale k_is_scale, m_is_scale := PySem.W.mg_of X G a_is_scale,
    b_is_scale := (fun_mk (st := s_is_scale) l_is_scale c_is_scale k_is_scale).binds (ps := ["value"]) fun _ _ _ _ _ _ us hl => match us, hl with | [_], _ => rfl,
    a_is_look := f_is_look, d_is_look := _, F_is_look := fun_mk (st := s_is_look) l_is_look c_is_look k_is_look, m_is_look := PySem.W.mg_of X G a_is_look,
    b_is_look := (fun_mk (st := s_is_look) l_is_look c_is_look k_is_look).binds (ps := ["value"]) fun _ _ _ _ _ _ us hl => match us, hl with | [_], _ => rfl,
    a_is_rule := f_is_rule, d_is_rule := _, F_is_rule := fun_mk (st := s_is_rule) l_is_rule c_is_rule k_is_rule, m_is_rule := PySem.W.mg_of X G a_is_rule,
    b_is_rule := (fun_mk (st := s_is_rule) l_is_rule c_is_rule k_is_rule).binds (ps := ["value"]) fun _ _ _ _ _ _ us hl => match us, hl with | [_], _ => rfl,
    a_is_style := f_is_style, d_is_style := _, cc_is_style := cc_is_style, P_is_style := P_is_style, F_is_style := funT_mk (st := s_is_style) l_is_style c_is_style k_is_style e_is_style, m_is_style := PySem.W.mg_of X G a_is_style,
    b_is_style := (fun_mk (st := s_is_style) l_is_style c_is_style k_is_style).binds (ps := ["value"]) fun _ _ _ _ _ _ us hl => match us, hl with | [_], _ => rfl,
    a__law_stream := f__law_stream, d__law_stream := _, F__law_stream := fun_mk (st := s__law_stream) l__law_stream c__law_stream k__law_stream, m__law_stream := PySem.W.mg_of X G a__law_stream,
    b__law_stream := (fun_mk (st := s__law_stream) l__law_stream c__law_stream k__law_stream).binds (ps := ["script"]) fun _ _ _ _ _ _ us hl => match us, hl with | [_], _ => rfl,
    a__law_next := f__law_next, d__law_next := _, F__law_next := fun_mk (st := s__law_next) l__law_next c__law_next k__law_next, m__law_next := PySem.W.mg_of X G a__law_next,
    b__law_next := (fun_mk (st := s__law_next) l__law_next c__law_next k__law_next).binds (ps := ["stream", "many"]) fun _ _ _ _ _ _ us hl => match us, hl with | [_, _], _ => rfl,
    a__law_look := f__law_look, d__law_look := _, F__law_look := fun_mk (st := s__law_look) l__law_look c__law_look k__law_look, m__law_look := PySem.W.mg_of X G a__law_look,
    b__law_look := (fun_mk (st := s__law_look) l__law_look c__law_look k__law_look).binds (ps := ["stream"]) fun _ _ _ _ _ _ us hl => match us, hl with | [_], _ => rfl,
    a__law_style := f__law_style, d__law_style := _, F__law_style := fun_mk (st := s__law_style) l__law_style c__law_style k__law_style, m__law_style := PySem.W.mg_of X G a__law_style,
    b__law_style := (fun_mk (st := s__law_style) l__law_style c__law_style k__law_style).binds (ps := ["stream", "least"]) fun _ _ _ _ _ _ us hl => match us, hl with | [_, _], _ => rfl,
    a__law_bad_look := f__law_bad_look, d__law_bad_look := _, F__law_bad_look := fun_mk (st := s__law_bad_look) l__law_bad_look c__law_bad_look k__law_bad_look, m__law_bad_look := PySem.W.mg_of X G a__law_bad_look,
    b__law_bad_look := (fun_mk (st := s__law_bad_look) l__law_bad_look c__law_bad_look k__law_bad_look).binds (ps := ["stream", "look"]) fun _ _ _ _ _ _ us hl => match us, hl with | [_, _], _ => rfl,
    a__law_bad_style := f__law_bad_style, d__law_bad_style := _, F__law_bad_style := fun_mk (st := s__law_bad_style) l__law_bad_style c__law_bad_style k__law_bad_style, m__law_bad_style := PySem.W.mg_of X G a__law_bad_style,
    b__law_bad_style := (fun_mk (st := s__law_bad_style) l__law_bad_style c__law_bad_style k__law_bad_style).binds (ps := ["stream", "style"]) fun _ _ _ _ _ _ us hl => match us, hl with | [_, _], _ => rfl,
    a_law := fa, d_law := _, F_law := fun_mk (st := s_law) l_law c_law k_law, m_law := PySem.W.mg_of X G a_law,
    b_law := (fun_mk (st := s_law) l_law c_law k_law).binds (ps := ["script"]) fun _ _ _ _ _ _ us hl => match us, hl with | [_], _ => rfl,
    n_abs := PySem.W.mg_none_of X G z_abs,
    n_all := PySem.W.mg_none_of X G z_all,
    n_bool := PySem.W.mg_none_of X G z_bool,
    n_int := PySem.W.mg_none_of X G z_int,
    n_isinstance := PySem.W.mg_none_of X G z_isinstance,
    n_len := PySem.W.mg_none_of X G z_len,
    n_list := PySem.W.mg_none_of X G z_list,
    n_min := PySem.W.mg_none_of X G z_min,
    n_range := PySem.W.mg_none_of X G z_range,
    n_str := PySem.W.mg_none_of X G z_str,
    n_tuple := PySem.W.mg_none_of X G z_tuple,
    c_DIGITS := ⟨_, PySem.W.mg_of X G v_DIGITS⟩,
    c_HIGHEST_SCALE := ⟨_, PySem.W.mg_of X G v_HIGHEST_SCALE⟩,
    c_LETTERS := ⟨_, PySem.W.mg_of X G v_LETTERS⟩,
    c_MOST_COLOUR := ⟨_, PySem.W.mg_of X G v_MOST_COLOUR⟩,
    c_MOST_OF_NAME := ⟨_, PySem.W.mg_of X G v_MOST_OF_NAME⟩,
    c_MOST_ORDER := ⟨_, PySem.W.mg_of X G v_MOST_ORDER⟩,
    c_MOST_RULES := ⟨_, PySem.W.mg_of X G v_MOST_RULES⟩,
    c_MOST_WIDTH := ⟨_, PySem.W.mg_of X G v_MOST_WIDTH⟩,
    a_FITS := a_F, es_FITS := es_F, n_FITS := n_F, g_FITS := PySem.W.mg_of X G g_F, q_fill := q1_F, q_stroke := q2_F, q_dot := q3_F, q_paint := q4_F }
  have tb_is_name := TQ "is_name" cc_is_name P_is_name rc_is_name (tabIn_of a_is_name l_is_name rfl e_is_name o_is_name v_is_name)
  have tb_is_style := TQ "is_style" cc_is_style P_is_style rc_is_style (tabIn_of a_is_style l_is_style rfl e_is_style o_is_style v_is_style)
  refine ⟨_, [(cc_is_name, P_is_name), (cc_is_style, P_is_style)], spLawT K T.ts, List.forall_mem_cons.mpr ⟨tb_is_name.2, List.forall_mem_cons.mpr ⟨tb_is_style.2, fun _ z => nomatch z⟩⟩, List.forall_mem_cons.mpr ⟨nl_is_name, List.forall_mem_cons.mpr ⟨nl_is_style, fun _ z => nomatch z⟩⟩, List.forall_mem_cons.mpr ⟨tb_is_name.1, List.forall_mem_cons.mpr ⟨tb_is_style.1, fun _ z => nomatch z⟩⟩, fun s v => .of_eq rfl, fun H a ns h1 h2 h3 h4 => ⟨a, ns, rfl, h4, h1, tbs_nil rfl h3, fun _ => rfl⟩, fun base _ _ hb => ok_law T ⟨(let z := hb (cc_is_name, P_is_name) (by simp); ⟨z.code, z.bm, z.gP⟩), (let z := hb (cc_is_style, P_is_style) (by simp); ⟨z.code, z.bm, z.gP⟩), { at_ := at_F, lit := lit_F, low := low_F }⟩⟩
end My
open PySem PySem.W PyProof.Rows
set_option maxRecDepth 100000 in
set_option maxHeartbeats 0 in
theorem PySem.Challenge.cw_trueatlas_k58_looks_and_styles_holds : PySem.Challenge.rw_trueatlas_k58_looks_and_styles.Holds := by
  w_on; o_law; k_head; (case hw => w_witness2)
  k_fill
  refine My.walkT (l := PySem.Challenge.rw_trueatlas_k58_looks_and_styles) (k := 10) ⟨rfl, by decide, by decide⟩ rfl rfl (fun w h Y => PySem.W.kIn_of Y) ?F
  case F =>
    intro w mg fa h TQ KX G hmg
    refine' My.all_mk (w := w) KX G hmg TQ ?a_is_whole ?l_is_whole ?c_is_whole ?k_is_whole ?a_is_between ?l_is_between ?c_is_between ?k_is_between ?a_is_name ?l_is_name ?c_is_name ?k_is_name ?a_is_scale ?l_is_scale ?c_is_scale ?k_is_scale ?a_is_look ?l_is_look ?c_is_look ?k_is_look ?a_is_rule ?l_is_rule ?c_is_rule ?k_is_rule ?a_is_style ?l_is_style ?c_is_style ?k_is_style ?a__law_stream ?l__law_stream ?c__law_stream ?k__law_stream ?a__law_next ?l__law_next ?c__law_next ?k__law_next ?a__law_look ?l__law_look ?c__law_look ?k__law_look ?a__law_style ?l__law_style ?c__law_style ?k__law_style ?a__law_bad_look ?l__law_bad_look ?c__law_bad_look ?k__law_bad_look ?a__law_bad_style ?l__law_bad_style ?c__law_bad_style ?k__law_bad_style ?a_law ?l_law ?c_law ?k_law ?z_abs ?z_all ?z_bool ?z_int ?z_isinstance ?z_len ?z_list ?z_min ?z_range ?z_str ?z_tuple ?v_DIGITS ?v_HIGHEST_SCALE ?v_LETTERS ?v_MOST_COLOUR ?v_MOST_OF_NAME ?v_MOST_ORDER ?v_MOST_RULES ?v_MOST_WIDTH ?g_F ?at_F ?lit_F ?low_F ?q1_F ?q2_F ?q3_F ?q4_F ?e_is_name ?o_is_name ?v_is_name ?nl_is_name ?rc_is_name ?e_is_style ?o_is_style ?v_is_style ?nl_is_style ?rc_is_style
    (case a_is_whole => k_is)
    (case l_is_whole => k_is)
    (case c_is_whole => k_is)
    (case k_is_whole => k_is)
    (case a_is_between => k_is)
    (case l_is_between => k_is)
    (case c_is_between => k_is)
    (case k_is_between => k_is)
    (case a_is_name => k_is)
    (case l_is_name => k_is)
    (case c_is_name => k_is)
    (case k_is_name => k_is)
    (case a_is_scale => k_is)
    (case l_is_scale => k_is)
    (case c_is_scale => k_is)
    (case k_is_scale => k_is)
    (case a_is_look => k_is)
    (case l_is_look => k_is)
    (case c_is_look => k_is)
    (case k_is_look => k_is)
    (case a_is_rule => k_is)
    (case l_is_rule => k_is)
    (case c_is_rule => k_is)
    (case k_is_rule => k_is)
    (case a_is_style => k_is)
    (case l_is_style => k_is)
    (case c_is_style => k_is)
    (case k_is_style => k_is)
    (case a__law_stream => k_is)
    (case l__law_stream => k_is)
    (case c__law_stream => k_is)
    (case k__law_stream => k_is)
    (case a__law_next => k_is)
    (case l__law_next => k_is)
    (case c__law_next => k_is)
    (case k__law_next => k_is)
    (case a__law_look => k_is)
    (case l__law_look => k_is)
    (case c__law_look => k_is)
    (case k__law_look => k_is)
    (case a__law_style => k_is)
    (case l__law_style => k_is)
    (case c__law_style => k_is)
    (case k__law_style => k_is)
    (case a__law_bad_look => k_is)
    (case l__law_bad_look => k_is)
    (case c__law_bad_look => k_is)
    (case k__law_bad_look => k_is)
    (case a__law_bad_style => k_is)
    (case l__law_bad_style => k_is)
    (case c__law_bad_style => k_is)
    (case k__law_bad_style => k_is)
    (case a_law => k_is)
    (case l_law => k_is)
    (case c_law => k_is)
    (case k_law => k_is)
    (case z_abs => k_is)
    (case z_all => k_is)
    (case z_bool => k_is)
    (case z_int => k_is)
    (case z_isinstance => k_is)
    (case z_len => k_is)
    (case z_list => k_is)
    (case z_min => k_is)
    (case z_range => k_is)
    (case z_str => k_is)
    (case z_tuple => k_is)
    (case v_DIGITS => k_is)
    (case v_HIGHEST_SCALE => k_is)
    (case v_LETTERS => k_is)
    (case v_MOST_COLOUR => k_is)
    (case v_MOST_OF_NAME => k_is)
    (case v_MOST_ORDER => k_is)
    (case v_MOST_RULES => k_is)
    (case v_MOST_WIDTH => k_is)
    (case g_F => k_is)
    (case at_F => k_is)
    (case lit_F => exact ⟨⟨_, _, rfl, rfl⟩, ⟨_, _, rfl, rfl⟩, ⟨_, _, rfl, rfl⟩, trivial⟩)
    (case low_F => rfl)
    (case q1_F => (apply Exists.intro; k_is))
    (case q2_F => (apply Exists.intro; k_is))
    (case q3_F => (apply Exists.intro; k_is))
    (case q4_F => k_is)
    (case e_is_name => rfl)
    (case o_is_name => k_is)
    (case v_is_name => rfl)
    (case nl_is_name => first | rfl | kernel_rfl)
    (case rc_is_name => first | rfl | decide +kernel)
    (case e_is_style => rfl)
    (case o_is_style => k_is)
    (case v_is_style => rfl)
    (case nl_is_style => first | rfl | kernel_rfl)
    (case rc_is_style => first | rfl | decide +kernel)


import PyProof.Rows.All
import Wide.All
import OpenK.AllK
import Wide.FinOn
import HandS.ForMost
import HandS.ForExc
import HandS.IsInst
import HandS.Wide
import HandS.TupLe
import HandS.TupAny
import HandS.Gcd
import HandS.Codes
import HandS.AnyAll
import HandS.GenList
import HandS.Walk
import HandS.EndTab
import HandS.Zip
import KE.SortData
import KE.DataMinMax
import KE.DataCmp
import HandS.Style
import HandS.TupAny
import HandS.Zip
import HandS.Walk
import HandS.More
import HandS.TupMul
import PySem.Challenge.RW_trueatlas_k06_lines_and_segments
set_option Elab.async false
set_option linter.all false
set_option maxRecDepth 100000
set_option maxHeartbeats 4000000
namespace My
open PySem L2

/-! ## heaps: what stood stands; a table of a code object may have grown -/
/-- no table of a code object -/
def NT (o : HO) : Prop := ∀ ps, o ≠ .tbl ps
/-- what was o stands at b -/
def Std (H : Hp) (b : Addr) (o : HO) : Prop := H b = some o ∨ ∃ ps qs, o = .tbl ps ∧ H b = some (.tbl qs) ∧ (TriplesOk ps.toList → TriplesOk qs.toList)
theorem Std.nt {H : Hp} {b : Addr} {o : HO} (h : Std H b o) (n : NT o) : H b = some o := by
  rcases h with h | ⟨ps, _, e, _⟩
  · exact h
  · exact absurd e (n ps)
theorem Std.ne_none {H : Hp} {b : Addr} {o : HO} (h : Std H b o) : H b ≠ none := by
  rcases h with h | ⟨_, _, _, h, _⟩ <;> rw [h] <;> simp
theorem Std.over {H : Hp} {b p : Addr} {o u : HO} (h : Std H b o) (n : b ≠ p) : Std (upd H p u) b o := by
  unfold Std at h ⊢
  rw [upd_ne n]; exact h
theorem Std.next {H H' : Hp} {b : Addr} {o : HO} (h : Std H b o) (k : ∀ u, H b = some u → Std H' b u) : Std H' b o := by
  rcases h with h | ⟨ps, qs, e, h, t⟩
  · exact k o h
  · rcases k _ h with k | ⟨ps2, rs, e2, k, t2⟩
    · exact .inr ⟨ps, qs, e, k, t⟩
    · injection e2 with e2
      subst e2
      exact .inr ⟨ps, rs, e, k, fun z => t2 (t z)⟩
/-- all that was tracked stands -/
def Same (H H' : Hp) : Prop := ∀ b o, H b = some o → Std H' b o
theorem Same.refl (H : Hp) : Same H H := fun _ _ h => .inl h
theorem Same.trans {H H1 H2 : Hp} (a : Same H H1) (b : Same H1 H2) : Same H H2 := fun c o h => (a c o h).next (b c)
theorem Same.free {H H' : Hp} (e : Same H H') {l : Addr} (h : H' l = none) : H l = none := by
  cases q : H l with
  | none => rfl
  | some o => exact absurd h (e l o q).ne_none
theorem Same.get {H H' : Hp} {b : Addr} {o : HO} (e : Same H H') (h : H b = some o) (n : NT o := by intro _ z; cases z) : H' b = some o := (e b o h).nt n
theorem Same.seq {K : PySem.W.Frag} {H H' : Hp} {a : Addr} {xs : List V} (e : Same H H') (h : SqL K H a xs) : SqL K H' a xs := by
  rcases h with (h | ⟨o, h⟩) | h
  · exact .inl (.inl (e.get h))
  · exact .inl (.inr ⟨o, e.get h⟩)
  · exact .inr h
/-! ## the tables of the code objects -/
/-- the tables stand -/
def Tbs (ts : List Addr) (H : Hp) : Prop := ∀ P ∈ ts, GxR.TabG H P
theorem tabG_std {H H' : Hp} {P : Addr} (h : GxR.TabG H P) (k : ∀ u, H P = some u → Std H' P u) : GxR.TabG H' P := by
  obtain ⟨ps, e, t⟩ := h
  rcases k _ e with k | ⟨ps2, qs, e2, k, t2⟩
  · exact ⟨ps, k, t⟩
  · injection e2 with e2
    subst e2
    exact ⟨qs, k, t2 t⟩
theorem Tbs.same {ts : List Addr} {H H' : Hp} (h : Tbs ts H) (e : Same H H') : Tbs ts H' := fun P hP => tabG_std (h P hP) (e P)
theorem same_tab {P : Addr} {H H' : Hp} (g : GxR.TabG H P) (h : GxR.Tabbed P H H') : Same H H' := fun b o e => by
  by_cases q : b = P
  · subst q
    obtain ⟨ps, e1, t⟩ := g
    obtain ⟨qs, e2, t2⟩ := h.1
    rw [e1] at e
    cases e
    exact .inr ⟨ps, qs, rfl, e2, fun _ => t2⟩
  · exact .inl (by rw [h.2 b q]; exact e)

/-! ## small rules -/
theorem pe_gI {X : Cx} {x : Str} {i : Int} {pos : Pos} (hm : ∃ t, X.mg x = some (.int i t)) (hg : Gl X x := by rfl) (hd : (x == ("__debug__" : Str)) = false := by decide) (hcd : (x == ("__classdict__" : Str)) = false := by decide) : PE X (.Name x pos) (tC (.int i)) := by
  obtain ⟨t, e⟩ := hm
  exact pe_glob hg e ⟨t, rfl⟩ hd
theorem ifD {c A B : Prop} [Decidable c] (h1 : c → A) (h2 : ¬ c → B) : if decide c = true then A else B := by
  by_cases h : c
  · rw [if_pos (decide_eq_true h)]; exact h1 h
  · rw [if_neg (by rw [decide_eq_false h]; exact Bool.false_ne_true)]; exact h2 h
theorem ifND {c A B : Prop} [Decidable c] (h1 : ¬ c → A) (h2 : c → B) : if (!decide c) = true then A else B := by
  by_cases h : c
  · rw [if_neg (by rw [decide_eq_true h]; exact Bool.false_ne_true)]; exact h2 h
  · rw [if_pos (by rw [decide_eq_false h]; rfl)]; exact h1 h
theorem ifB {b : Bool} {A B : Prop} (h1 : b = true → A) (h2 : b = false → B) : if b = true then A else B := by
  cases b
  · exact iteF (h2 rfl)
  · exact iteT (h1 rfl)
theorem ifTr {b : Bool} {A B : Prop} (e : b = true) (h : A) : if b = true then A else B := by rw [if_pos e]; exact h
theorem ifFa {b : Bool} {A B : Prop} (e : b = false) (h : B) : if b = true then A else B := by rw [e]; exact iteF h

/-! ## heaps: all that stood stands, but for what is at s -/
def But (s : Addr) (H H' : Hp) : Prop := ∀ b o, b ≠ s → H b = some o → Std H' b o
theorem But.refl {s : Addr} {H : Hp} : But s H H := fun _ _ _ e => .inl e
theorem But.trans {s : Addr} {H H1 H2 : Hp} (a : But s H H1) (b : But s H1 H2) : But s H H2 := fun c o n e => (a c o n e).next fun u k => b c u n k
theorem But.new {s p : Addr} {H : Hp} {o : HO} (n : H p = none) : But s H (upd H p o) := fun b u _ e => .inl (by
  rw [upd_ne (ne_of_none e n)]; exact e)
theorem But.then_new {s p : Addr} {H H1 : Hp} {o : HO} (a : But s H H1) (n : H1 p = none) : But s H (upd H1 p o) := a.trans (But.new n)
theorem But.at {s : Addr} {H : Hp} {o : HO} : But s H (upd H s o) := fun b u n e => .inl (by rw [upd_ne n]; exact e)
theorem But.then_at {s : Addr} {H H1 : Hp} {o : HO} (a : But s H H1) : But s H (upd H1 s o) := a.trans But.at
theorem But.of_same {s : Addr} {H H' : Hp} (a : Same H H') : But s H H' := fun b o _ e => a b o e
theorem But.then_same {s : Addr} {H H1 H2 : Hp} (a : But s H H1) (b : Same H1 H2) : But s H H2 := a.trans (But.of_same b)
theorem But.get {s b : Addr} {H H' : Hp} {o : HO} (e : But s H H') (q : b ≠ s) (h : H b = some o) (n : NT o := by intro _ z; cases z) : H' b = some o := (e b o q h).nt n
theorem same_new {p : Addr} {H : Hp} {o : HO} (n : H p = none) : Same H (upd H p o) := fun b u e => .inl (by
  rw [upd_ne (ne_of_none e n)]; exact e)
theorem same_then {p : Addr} {H H1 : Hp} {o : HO} (a : Same H H1) (n : H1 p = none) : Same H (upd H1 p o) := a.trans (same_new n)
/-- behind a new object's change -/
theorem Same.put {p : Addr} {H H1 : Hp} {o : HO} (a : Same H H1) (n : H p = none) : Same H (upd H1 p o) := fun b u e => (a b u e).over (ne_of_none e n)
theorem But.put {s p : Addr} {H H1 : Hp} {o : HO} (a : But s H H1) (n : H p = none) : But s H (upd H1 p o) := fun b u q e => (a b u q e).over (ne_of_none e n)
/-- the tables stand, whatever becomes of a list -/
theorem Tbs.but {ts : List Addr} {s : Addr} {H H' : Hp} (h : Tbs ts H) (e : But s H H') (l : ∃ xs, H s = some (.lst xs)) : Tbs ts H' := fun P hP => by
  have g := h P hP
  refine tabG_std g fun u k => e P u ?_ k
  obtain ⟨ps, e1, _⟩ := g
  obtain ⟨xs, e2⟩ := l
  intro z
  rw [z, e2] at e1
  cases e1
theorem Tbs.over {ts : List Addr} {p : Addr} {H : Hp} {o : HO} (h : Tbs ts H) (n : H p = none) : Tbs ts (upd H p o) := h.same (same_new n)
theorem Tbs.put {ts : List Addr} {p : Addr} {H : Hp} {o : HO} (h : Tbs ts H) (l : ∃ xs, H p = some (.lst xs)) : Tbs ts (upd H p o) := h.but But.at l
/-- what stands at s is the stream's list: no tuple -/
def Lst (H : Hp) (s : Addr) : Prop := ∃ xs, H s = some (.lst xs)

/-! ## tuples -/
section
variable {K : PySem.W.Frag} {H H' : Hp} {a p s : Addr} {xs : List V} {o : HO}
theorem tHere : SqT K (upd H p (.tup xs)) p xs := SqT.of upd_same
theorem tSame (e : Same H H') (h : SqT K H a xs) : SqT K H' a xs := by
  rcases h with (h | ⟨o, h⟩) | h
  · exact .inl (.inl (e.get h))
  · exact .inl (.inr ⟨o, e.get h⟩)
  · exact .inr h
theorem tOver (n : H p = none) (h : SqT K H a xs) : SqT K (upd H p o) a xs := tSame (same_new n) h
theorem tAt (n : ∃ ys, H s = some (.lst ys)) (h : SqT K H a xs) : SqT K (upd H s o) a xs := by
  obtain ⟨ys, n⟩ := n
  rcases h with (h | ⟨o, h⟩) | h
  · exact .inl (.inl (by rw [upd_ne (ne_of h n (by intro z; cases z))]; exact h))
  · exact .inl (.inr ⟨o, by rw [upd_ne (ne_of h n (by intro z; cases z))]; exact h⟩)
  · exact .inr h
theorem tBut (e : But s H H') (n : Lst H s) (h : SqT K H a xs) : SqT K H' a xs := by
  obtain ⟨ys, n⟩ := n
  rcases h with (h | ⟨o, h⟩) | h
  · exact .inl (.inl (e.get (ne_of h n (by intro z; cases z)) h))
  · exact .inl (.inr ⟨o, e.get (ne_of h n (by intro z; cases z)) h⟩)
  · exact .inr h
theorem lHere : SqL K (upd H p (.lst xs)) p xs := SqL.of upd_same
theorem Tbs.strm {ts : List Addr} {s b : Addr} {H H' : Hp} (h : Tbs ts H) (e : But s H H') (l : Lst H s) : Tbs ts H' := h.but e l
theorem lOver (n : H p = none) (h : SqL K H a xs) : SqL K (upd H p o) a xs := Same.seq (same_new n) h
theorem rOver (n : H p = none) {u : HO} (h : H a = some u) : upd H p o a = some u := by rw [upd_ne (ne_of_none h n)]; exact h
end
end My

namespace My
open PySem L2
/-! ## kinds of values -/
inductive Ty (K : PySem.W.Frag) (H : Hp) : V → String → Prop where
  | non : Ty K H .non "NoneType"
  | bl (b : Bool) : Ty K H (.bl b) "bool"
  | int (i : Int) : Ty K H (.int i) "int"
  | str (x : Str) : Ty K H (.str x) "str"
  | tup {a : Addr} {xs : List V} (h : SqT K H a xs) : Ty K H (.ref a) "tuple"
  | lst {a : Addr} {xs : List V} (h : SqL K H a xs) : Ty K H (.ref a) "list"
theorem Ty.x {K : PySem.W.Frag} {H : Hp} {v : V} {n : String} (h : Ty K H v n) : TyX K H v (.type n) := by
  cases h with
  | non => exact .base .non
  | bl b => exact .base (.bl b)
  | int i => exact .base (.int i)
  | str x => exact .base (.str x)
  | tup h =>
    rcases h with (h | ⟨o, h⟩) | ⟨o, its, n, e, c, _⟩
    · exact .base (.tup h)
    · exact .fTuple h
    · exact .kTuple e c
  | lst h =>
    rcases h with (h | ⟨o, h⟩) | ⟨o, its, n, e, c, _⟩
    · exact .base (.lst h)
    · exact .base (.frz h)
    · exact .kList e c
/-- isinstance's answers among these -/
def isaB (a b : String) : Bool := (kitB a b).getD false
theorem isa {K : PySem.W.Frag} {a b : String} (h : (kitB a b).isSome = true) : PySem.W.kitOne K (.type a) (.type b) = some (isaB a b) := by
  refine kit_ty ?_
  unfold isaB
  cases e : kitB a b with
  | none => rw [e] at h; cases h
  | some r => rfl
def six : List String := ["NoneType", "bool", "int", "str", "tuple", "list"]
theorem isa_all : (six.all fun a => six.tail.all fun b => (kitB a b).isSome) = true := by decide +kernel
theorem isa_tab : (six.all fun a => six.tail.all fun b => isaB a b == (a == b || (a == "bool" && b == "int"))) = true := by decide +kernel
theorem Ty.six {K : PySem.W.Frag} {H : Hp} {v : V} {n : String} (h : Ty K H v n) : n ∈ six := by
  cases h <;> simp [My.six]
theorem isaN {K : PySem.W.Frag} {n b : String} (h : n ∈ My.six) (hb : b ∈ My.six.tail) : PySem.W.kitOne K (.type n) (.type b) = some (n == b || (n == "bool" && b == "int")) := by
  have h1 := List.all_eq_true.mp (List.all_eq_true.mp isa_all n h) b hb
  have h2 := List.all_eq_true.mp (List.all_eq_true.mp isa_tab n h) b hb
  rw [isa h1, eq_of_beq h2]
/-- whether a value is an int (True and False are none) -/
def isI : V → Bool
  | .int _ => true
  | _ => false
theorem small {n : Nat} (h : Nat.ble n 100 = true) : n ≤ sizeLine := Nat.le_trans (Nat.le_of_ble_eq_true h) (by decide)
/-! ## indexes -/
theorem at0 {α : Type} {a : α} {r : List α} : atI (a :: r) 0 = some a := atI_nat (j := 0) rfl
theorem at1 {α : Type} {a b : α} {r : List α} : atI (a :: b :: r) 1 = some b := atI_nat (j := 1) rfl
theorem at2 {α : Type} {a b c : α} {r : List α} : atI (a :: b :: c :: r) 2 = some c := atI_nat (j := 2) rfl
theorem at3 {α : Type} {a b c d : α} {r : List α} : atI (a :: b :: c :: d :: r) 3 = some d := atI_nat (j := 3) rfl
end My

namespace My
open PySem L2
/-! ## points -/
def coordB : V → Bool
  | .int i => decide (-1000 ≤ i) && decide (i ≤ 1000)
  | _ => false
def pointB : List V → Bool
  | [u, v] => coordB u && coordB v
  | _ => false
/-- small enough to be multiplied -/
def Sm (x : Int) : Prop := -1099511627776 ≤ x ∧ x ≤ 1099511627776
def turnI (ax ay bx dy cx cy : Int) : Int := (bx - ax) * (cy - ay) - (dy - ay) * (cx - ax)
/-- whether a point's numbers are those of the map -/
def On (x y : Int) : Prop := -1000 ≤ x ∧ x ≤ 1000 ∧ -1000 ≤ y ∧ y ≤ 1000
theorem On.b {x y : Int} (h : On x y) : pointB [.int x, .int y] = true := by
  obtain ⟨h1, h2, h3, h4⟩ := h
  simp [pointB, coordB, h1, h2, h3, h4]
theorem On.sx {x y : Int} (h : On x y) : Sm x := by unfold On at h; unfold Sm; omega
theorem On.sy {x y : Int} (h : On x y) : Sm y := by unfold On at h; unfold Sm; omega
/-! ## the stream of a law -/
/-- at s: a stream: a list of ints, the cell, its number -/
def Strm (H : Hp) (s b : Addr) : Prop := ∃ (ns : List Int) (c k : Int), H b = some (.lst (ns.map V.int)) ∧ H s = some (.lst [.ref b, .int c, .int k]) ∧ 0 ≤ c ∧ 0 ≤ k
theorem Strm.lst {H : Hp} {s b : Addr} (h : Strm H s b) : Lst H s := by
  obtain ⟨_, _, _, _, h, _⟩ := h
  exact ⟨_, h⟩
theorem tyL {K : PySem.W.Frag} {H : Hp} {p : Addr} {xs : List V} (h : H p = some (.lst xs)) : tyV K "list" (.ref p) H := .inl ⟨rfl, xs, SqL.of h⟩
theorem Strm.same {H H' : Hp} {s b : Addr} (h : Strm H s b) (e : Same H H') : Strm H' s b := by
  obtain ⟨ns, c, k, h1, h2, h3, h4⟩ := h
  exact ⟨ns, c, k, e.get h1 (by intro _ z; cases z), e.get h2, h3, h4⟩
theorem Strm.over {H : Hp} {s b p : Addr} {o : HO} (h : Strm H s b) (n : H p = none) : Strm (upd H p o) s b := h.same (same_new n)
/-- a list of the law's own grows -/
theorem Strm.at {H : Hp} {s b p : Addr} {o : HO} (h : Strm H s b) (n1 : p ≠ s) (n2 : p ≠ b) : Strm (upd H p o) s b := by
  obtain ⟨ns, c, k, h1, h2, h3, h4⟩ := h
  exact ⟨ns, c, k, by rw [upd_ne n2.symm]; exact h1, by rw [upd_ne n1.symm]; exact h2, h3, h4⟩
theorem Strm.new1 {H : Hp} {s b p : Addr} (h : Strm H s b) (n : H p = none) : p ≠ s := by
  obtain ⟨ns, c, k, h1, h2, h3, h4⟩ := h
  exact (ne_of_none h2 n).symm
theorem Strm.new2 {H : Hp} {s b p : Addr} (h : Strm H s b) (n : H p = none) : p ≠ b := by
  obtain ⟨ns, c, k, h1, h2, h3, h4⟩ := h
  exact (ne_of_none h1 n).symm
theorem ints_no_ref {ns : List Int} {b : Addr} {r : List V} : HO.lst (ns.map V.int) ≠ HO.lst (.ref b :: r) := by
  intro e
  cases ns with
  | nil => injection e with e; cases e
  | cons n ns => injection e with e; injection e with e _; cases e
/-- the two objects of a stream stand apart -/
theorem Strm.ne {H : Hp} {b s : Addr} {ns : List Int} {x : Addr} {r : List V} (h1 : H b = some (.lst (ns.map V.int))) (h2 : H s = some (.lst (.ref x :: r))) : b ≠ s := ne_of h1 h2 ints_no_ref
/-! ## digits -/
theorem fmod_lt {a m : Int} (hm : 0 < m) : a.fmod m < m := by
  rw [Int.fmod_eq_emod_of_nonneg _ (Int.le_of_lt hm)]; exact Int.emod_lt_of_pos _ hm
theorem fmod_ge {a m : Int} (hm : 0 < m) : 0 ≤ a.fmod m := by
  rw [Int.fmod_eq_emod_of_nonneg _ (Int.le_of_lt hm)]; exact Int.emod_nonneg _ (by omega)
theorem div_ge {a m : Int} (ha : 0 ≤ a) (hm : 0 < m) : 0 ≤ a / m := Int.ediv_nonneg ha (Int.le_of_lt hm)
end My

namespace My
open PySem L2
/-! ## two values with the same content, to a depth below n -/
inductive Dq (K : PySem.W.Frag) (H : Hp) : Nat → V → V → Prop where
  | non (n : Nat) : Dq K H (n + 1) .non .non
  | bl (n : Nat) (b : Bool) : Dq K H (n + 1) (.bl b) (.bl b)
  | int (n : Nat) (i : Int) : Dq K H (n + 1) (.int i) (.int i)
  | str (n : Nat) (x : Str) : Dq K H (n + 1) (.str x) (.str x)
  | lst {n : Nat} {a b : Addr} {xs ys : List V} (h1 : SqL K H a xs) (h2 : SqL K H b ys) (hl : xs.length = ys.length) (hz : ys.length ≤ 1000)
      (h : ∀ (i : Nat) u v, xs[i]? = some u → ys[i]? = some v → Dq K H n u v) : Dq K H (n + 1) (.ref a) (.ref b)
  | tup {n : Nat} {a b : Addr} {xs ys : List V} (h1 : SqT K H a xs) (h2 : SqT K H b ys) (hl : xs.length = ys.length) (hz : ys.length ≤ 1000)
      (h : ∀ (i : Nat) u v, xs[i]? = some u → ys[i]? = some v → Dq K H n u v) : Dq K H (n + 1) (.ref a) (.ref b)
theorem Dq.same {K : PySem.W.Frag} {H H' : Hp} (e : Same H H') {n : Nat} {x y : V} (h : Dq K H n x y) : Dq K H' n x y := by
  induction h with
  | non n => exact .non n
  | bl n b => exact .bl n b
  | int n i => exact .int n i
  | str n x => exact .str n x
  | lst h1 h2 hl hz _ ih => exact .lst (e.seq h1) (e.seq h2) hl hz ih
  | tup h1 h2 hl hz _ ih => exact .tup (tSame e h1) (tSame e h2) hl hz ih
theorem get_at {xs : List V} {i : Nat} (h : i < xs.length) : xs[i]? = some xs[i] := List.getElem?_eq_getElem h
theorem line1000 {n : Nat} (h : n ≤ 1000) : n < 2 ^ 62 := Nat.lt_of_le_of_lt h (by decide)
end My

namespace My
open PySem L2
section
variable {K : PySem.W.Frag} {H H' : Hp} {a p s : Addr} {xs : List V} {o : HO}
/-- a new list stands behind a draw -/
theorem rBut {b : Addr} (e : But s (upd H p o) H') (n : H p = none) (S : Strm H s b) (nt : NT o := by intro _ z; cases z) : H' p = some o := by
  obtain ⟨ns, c, k, h1, h2, _⟩ := S
  exact e.get (ne_of_none h2 n).symm upd_same nt
theorem tButS {b : Addr} (e : But s H H') (S : Strm H s b) (h : SqT K H a xs) : SqT K H' a xs := tBut e S.lst h
end
/-- one of the four -/
def Far (f : Int) : Prop := f = 2 ∨ f = 4 ∨ f = 9 ∨ f = 1000
theorem Far.le {f : Int} (h : Far f) : 2 ≤ f ∧ f ≤ 1000 := by unfold Far at h; omega
/-- a point within far -/
def In (f x y : Int) : Prop := -f ≤ x ∧ x ≤ f ∧ -f ≤ y ∧ y ≤ f
theorem In.on {f x y : Int} (h : In f x y) (hf : f ≤ 1000) : On x y := by unfold In at h; unfold On; omega
theorem atFour {α : Type} {a b c d : α} {i : Int} (h0 : 0 ≤ i) (h1 : i < 4) : ∃ v, atI [a, b, c, d] i = some v ∧ (v = a ∨ v = b ∨ v = c ∨ v = d) := by
  rcases (show i = 0 ∨ i = 1 ∨ i = 2 ∨ i = 3 by omega) with rfl | rfl | rfl | rfl
  · exact ⟨_, at0, .inl rfl⟩
  · exact ⟨_, at1, .inr (.inl rfl)⟩
  · exact ⟨_, at2, .inr (.inr (.inl rfl))⟩
  · exact ⟨_, at3, .inr (.inr (.inr rfl))⟩
theorem atThree {α : Type} {a b c : α} {i : Int} (h0 : 0 ≤ i) (h1 : i < 3) : ∃ v, atI [a, b, c] i = some v ∧ (v = a ∨ v = b ∨ v = c) := by
  rcases (show i = 0 ∨ i = 1 ∨ i = 2 by omega) with rfl | rfl | rfl
  · exact ⟨_, at0, .inl rfl⟩
  · exact ⟨_, at1, .inr (.inl rfl)⟩
  · exact ⟨_, at2, .inr (.inr rfl)⟩
theorem atTwo {α : Type} {a b : α} {i : Int} (h0 : 0 ≤ i) (h1 : i < 2) : ∃ v, atI [a, b] i = some v ∧ (v = a ∨ v = b) := by
  rcases (show i = 0 ∨ i = 1 by omega) with rfl | rfl
  · exact ⟨_, at0, .inl rfl⟩
  · exact ⟨_, at1, .inr rfl⟩
/-- an item of a list -/
theorem atAny {α : Type} {xs : List α} {i : Int} (h0 : 0 ≤ i) (h1 : i < xs.length) : ∃ v, atI xs i = some v ∧ v ∈ xs := by
  obtain ⟨j, rfl⟩ : ∃ j : Nat, i = j := ⟨i.toNat, by omega⟩
  have h : j < xs.length := by omega
  exact ⟨xs[j], atI_nat (List.getElem?_eq_getElem h), List.getElem_mem h⟩
/-! ## turns -/
theorem turn_cyc (ax ay bx dy cx cy : Int) : turnI bx dy cx cy ax ay = turnI ax ay bx dy cx cy := by unfold turnI; grind
theorem turn_swap (ax ay bx dy cx cy : Int) : turnI bx dy ax ay cx cy = 0 - turnI ax ay bx dy cx cy := by unfold turnI; grind
theorem turn_quarter (ax ay bx dy cx cy : Int) : turnI (0 - ay) ax (0 - dy) bx (0 - cy) cx = turnI ax ay bx dy cx cy := by unfold turnI; grind
theorem turn_mirror (ax ay bx dy cx cy : Int) : turnI (0 - ax) ay (0 - bx) dy (0 - cx) cy = 0 - turnI ax ay bx dy cx cy := by unfold turnI; grind
theorem turn_moved (ax ay bx dy cx cy d e : Int) : turnI (ax + d) (ay - e) (bx + d) (dy - e) (cx + d) (cy - e) = turnI ax ay bx dy cx cy := by unfold turnI; grind
theorem turn_four (ax ay bx dy cx cy ex ey : Int) : turnI ax ay bx dy cx cy + turnI ax ay cx cy ex ey = turnI ax ay bx dy ex ey + turnI bx dy cx cy ex ey := by unfold turnI; grind
end My
namespace My
open PySem L2
theorem two_ints {K : PySem.W.Frag} {H : Hp} {x y : Int} : ∀ v ∈ [V.int x, V.int y], ∃ m, Ty K H v m := by
  intro v hv
  rcases List.mem_cons.mp hv with rfl | hv
  · exact ⟨_, .int _⟩
  · rcases List.mem_cons.mp hv with rfl | hv
    · exact ⟨_, .int _⟩
    · cases hv
end My

namespace My
open PySem L2
/-! ## lists of points: each with where it stands -/
abbrev Zp := Addr × Int × Int
/-- what a list of points holds -/
abbrev refs (zs : List Zp) : List V := zs.map fun z => V.ref z.1
def Pts (K : PySem.W.Frag) (H : Hp) (zs : List Zp) : Prop := ∀ z ∈ zs, SqT K H z.1 [.int z.2.1, .int z.2.2]
section
variable {K : PySem.W.Frag} {H H' : Hp} {s b D p : Addr} {zs : List Zp} {z : Zp} {o : HO}
theorem Pts.nil : Pts K H [] := fun _ h => by cases h
theorem Pts.same (e : Same H H') (h : Pts K H zs) : Pts K H' zs := fun z hz => tSame e (h z hz)
theorem Pts.but (e : But s H H') (S : Strm H s b) (h : Pts K H zs) : Pts K H' zs := fun z hz => tButS e S (h z hz)
theorem Pts.over (n : H p = none) (h : Pts K H zs) : Pts K (upd H p o) zs := h.same (same_new n)
theorem Pts.at (n : ∃ ys, H D = some (.lst ys)) (h : Pts K H zs) : Pts K (upd H D o) zs := fun z hz => tAt n (h z hz)
theorem Pts.one (h : SqT K H z.1 [.int z.2.1, .int z.2.2]) : Pts K H [z] := fun y hy => by
  rw [List.mem_singleton] at hy; rw [hy]; exact h
theorem Pts.app {ys : List Zp} (h : Pts K H zs) (g : Pts K H ys) : Pts K H (zs ++ ys) := fun y hy =>
  (List.mem_append.mp hy).elim (h y) (g y)
theorem Pts.get (h : Pts K H zs) {i : Nat} (e : zs[i]? = some z) : SqT K H z.1 [.int z.2.1, .int z.2.2] := h z (List.mem_of_getElem? e)
end
theorem four_of {α : Type} {xs : List α} (h : xs.length = 4) : ∃ a b c d, xs = [a, b, c, d] := by
  match xs, h with
  | [a, b, c, d], _ => exact ⟨a, b, c, d, rfl⟩
theorem three_of {α : Type} {xs : List α} (h : xs.length = 3) : ∃ a b c, xs = [a, b, c] := by
  match xs, h with
  | [a, b, c], _ => exact ⟨a, b, c, rfl⟩
theorem line_of {n : Nat} (h : n ≤ 1000) : n < sizeLine := small1000 h
end My
namespace My
open PySem L2
def spLaw (K : PySem.W.Frag) : Sp := fun vs H Q _ => ∃ (a : Addr) (ns : List Int), vs = [.ref a] ∧ SqL K H a (ns.map V.int) ∧ ns.length ≤ 63 ∧ ∀ H', Q (.bl true) H'
theorem On.quarter {x y : Int} (h : On x y) : On (0 - y) x := by unfold On at *; omega
theorem On.mirror {x y : Int} (h : On x y) : On (0 - x) y := by unfold On at *; omega
end My

namespace My
open PySem L2
/-! ## greatest common divisors -/
theorem op_fdivV {X : Cx} : OpR X (binaryOp .FloorDiv) (rI (fun _ j => j ≠ 0 ∧ j.natAbs < 2 ^ 9000) fun i j => .int (i.fdiv j)) := opI fun i j _ _ _ _ _ hc q =>
  PyProof.Rows.floordiv_int hc.1 q (.inl (PyProof.noPylong_of_log2 (by
    by_cases z : j.natAbs = 0
    · rw [z]; decide
    · exact (Nat.log2_lt z).mpr hc.2)))
/-- the state of Euclid's loop behind i turns -/
structure GI (n d M i x y : Nat) : Prop where
  g : Nat.gcd x y = Nat.gcd n d
  hy : y * 2 ^ (i / 2) ≤ M
  hx : x * 2 ^ ((i - 1) / 2) ≤ M
  le : 1 ≤ i → y ≤ x
theorem GI.start {n d M : Nat} (h1 : n ≤ M) (h2 : d ≤ M) : GI n d M 0 n d := ⟨rfl, by simpa using h2, by simpa using h1, fun h => absurd h (by decide)⟩
theorem mod_half {x y : Nat} (h0 : 0 < y) (h : y ≤ x) : 2 * (x % y) ≤ x := by
  have h1 := Nat.mod_lt x h0
  have h2 := Nat.div_add_mod x y
  have h3 : 1 ≤ x / y := (Nat.le_div_iff_mul_le h0).mpr (by omega)
  have h4 : y * 1 ≤ y * (x / y) := Nat.mul_le_mul_left y h3
  omega
theorem GI.step {n d M i x y : Nat} (h : GI n d M i x y) (h0 : 0 < y) : GI n d M (i + 1) y (x % y) := by
  have hm := Nat.mod_lt x h0
  refine ⟨?_, ?_, ?_, fun _ => Nat.le_of_lt hm⟩
  · rw [← h.g, Nat.gcd_comm x y, Nat.gcd_rec y x, Nat.gcd_comm]
  · by_cases hi : 1 ≤ i
    · have e : (i + 1) / 2 = (i - 1) / 2 + 1 := by omega
      rw [e, Nat.pow_succ]
      have h2 := mod_half h0 (h.le hi)
      have h3 : 2 * (x % y) * 2 ^ ((i - 1) / 2) ≤ x * 2 ^ ((i - 1) / 2) := Nat.mul_le_mul_right _ h2
      have h4 := h.hx
      have e2 : x % y * (2 ^ ((i - 1) / 2) * 2) = 2 * (x % y) * 2 ^ ((i - 1) / 2) := by
        rw [Nat.mul_comm (2 ^ ((i - 1) / 2)) 2, ← Nat.mul_assoc, Nat.mul_comm (x % y) 2]
      omega
    · have e : i = 0 := by omega
      subst e
      have h4 : y * 2 ^ (0 / 2) ≤ M := h.hy
      have h5 : y * 2 ^ (0 / 2) = y := Nat.mul_one y
      show x % y * 2 ^ ((0 + 1) / 2) ≤ M
      have e2 : x % y * 2 ^ ((0 + 1) / 2) = x % y := Nat.mul_one _
      omega
  · have e : (i + 1 - 1) / 2 = i / 2 := by omega
    rw [e]
    exact h.hy
theorem GI.done {n d x y k : Nat} (h : GI n d (2 ^ k) 40000 x y) (hk : k < 20000) : y = 0 := by
  rcases Nat.eq_zero_or_pos y with z | z
  · exact z
  · have h1 : y * 2 ^ 20000 ≤ 2 ^ k := h.hy
    have h2 : 1 * 2 ^ 20000 ≤ y * 2 ^ 20000 := Nat.mul_le_mul_right _ z
    have h3 : 2 ^ k < 2 ^ 20000 := Nat.pow_lt_pow_right (by decide) hk
    rw [Nat.one_mul] at h2
    exact absurd (Nat.le_trans h2 h1) (Nat.not_le.mpr h3)
theorem abs_nat (i : Int) : (if i < 0 then -i else i) = (i.natAbs : Int) := by split <;> omega
theorem fmod_nat (x y : Nat) : ((x : Int).fmod (y : Int)) = ((x % y : Nat) : Int) := by
  rw [Int.fmod_eq_emod_of_nonneg _ (Int.natCast_nonneg y), Int.natCast_emod]
/-- the divisor with the sign of d -/
def sgcd (n d : Int) : Int := if d < 0 then 0 - (Nat.gcd n.natAbs d.natAbs : Int) else (Nat.gcd n.natAbs d.natAbs : Int)
def lowN (n d : Int) : Int := n.fdiv (sgcd n d)
def lowD (n d : Int) : Int := d.fdiv (sgcd n d)
theorem gcd_pos {n d : Int} (h : d ≠ 0) : 0 < Nat.gcd n.natAbs d.natAbs := Nat.gcd_pos_of_pos_right _ (by omega)
theorem sgcd_ne {n d : Int} (h : d ≠ 0) : sgcd n d ≠ 0 := by
  have := gcd_pos (n := n) h
  unfold sgcd
  split <;> omega
theorem sgcd_le {n d : Int} (h : d ≠ 0) : (sgcd n d).natAbs ≤ d.natAbs := by
  have h1 : Nat.gcd n.natAbs d.natAbs ≤ d.natAbs := Nat.le_of_dvd (by omega) (Nat.gcd_dvd_right _ _)
  unfold sgcd
  split <;> omega
/-- what the lowest terms are -/
structure LowOk (n d N D : Int) : Prop where
  mul : ∃ g : Int, g ≠ 0 ∧ n = g * N ∧ d = g * D
  pos : 0 < D
  one : Nat.gcd N.natAbs D.natAbs = 1
theorem fdiv_mul {g x : Int} (h : g ≠ 0) : (g * x).fdiv g = x := by
  rw [Int.fdiv_eq_ediv_of_dvd (Int.dvd_mul_right g x), Int.mul_ediv_cancel_left _ h]
theorem low_ok {n d : Int} (h : d ≠ 0) : LowOk n d (lowN n d) (lowD n d) := by
  have hg := gcd_pos (n := n) h
  have hs := sgcd_ne (n := n) h
  obtain ⟨a, ha⟩ := Nat.gcd_dvd_left n.natAbs d.natAbs
  obtain ⟨b, hb⟩ := Nat.gcd_dvd_right n.natAbs d.natAbs
  have co : Nat.gcd a b = 1 := by
    have e : Nat.gcd (Nat.gcd n.natAbs d.natAbs * a) (Nat.gcd n.natAbs d.natAbs * b) = Nat.gcd n.natAbs d.natAbs * Nat.gcd a b := Nat.gcd_mul_left _ _ _
    rw [← ha, ← hb] at e
    have e' : Nat.gcd n.natAbs d.natAbs * 1 = Nat.gcd n.natAbs d.natAbs * Nat.gcd a b := by rw [Nat.mul_one]; exact e
    exact (Nat.eq_of_mul_eq_mul_left hg e').symm
  -- both as multiples of the divisor
  have dn : sgcd n d ∣ n := by
    have : ((Nat.gcd n.natAbs d.natAbs : Nat) : Int) ∣ n := Int.ofNat_dvd_left.mpr (Nat.gcd_dvd_left _ _)
    unfold sgcd
    split
    · rw [Int.zero_sub]; exact Int.neg_dvd.mpr this
    · exact this
  have dd : sgcd n d ∣ d := by
    have : ((Nat.gcd n.natAbs d.natAbs : Nat) : Int) ∣ d := Int.ofNat_dvd_left.mpr (Nat.gcd_dvd_right _ _)
    unfold sgcd
    split
    · rw [Int.zero_sub]; exact Int.neg_dvd.mpr this
    · exact this
  obtain ⟨N, hN⟩ := dn
  obtain ⟨D, hD⟩ := dd
  have eN : lowN n d = N := by
    unfold lowN
    rw [show n.fdiv (sgcd n d) = (sgcd n d * N).fdiv (sgcd n d) from congrArg (fun z => Int.fdiv z (sgcd n d)) hN]
    exact fdiv_mul hs
  have eD : lowD n d = D := by
    unfold lowD
    rw [show d.fdiv (sgcd n d) = (sgcd n d * D).fdiv (sgcd n d) from congrArg (fun z => Int.fdiv z (sgcd n d)) hD]
    exact fdiv_mul hs
  have sa : (sgcd n d).natAbs = Nat.gcd n.natAbs d.natAbs := by unfold sgcd; split <;> omega
  have aN : N.natAbs = a := by
    have e := congrArg Int.natAbs hN
    rw [Int.natAbs_mul, sa] at e
    exact Nat.eq_of_mul_eq_mul_left hg (e.symm.trans ha)
  have aD : D.natAbs = b := by
    have e := congrArg Int.natAbs hD
    rw [Int.natAbs_mul, sa] at e
    exact Nat.eq_of_mul_eq_mul_left hg (e.symm.trans hb)
  rw [eN, eD]
  refine ⟨⟨_, hs, hN, hD⟩, ?_, by rw [aN, aD]; exact co⟩
  -- the sign
  have sg : (d < 0 → sgcd n d < 0) ∧ (0 ≤ d → 0 < sgcd n d) := by unfold sgcd; split <;> omega
  by_cases hd : d < 0
  · have s1 := sg.1 hd
    by_cases hp : 0 < D
    · exact hp
    · exfalso
      have : 0 ≤ sgcd n d * D := Int.mul_nonneg_of_nonpos_of_nonpos (by omega) (by omega)
      omega
  · have s1 := sg.2 (by omega)
    by_cases hp : 0 < D
    · exact hp
    · exfalso
      have : sgcd n d * D ≤ 0 := Int.mul_nonpos_of_nonneg_of_nonpos (by omega) (by omega)
      omega
theorem LowOk.leN {n d N D : Int} (h : LowOk n d N D) : N.natAbs ≤ n.natAbs := by
  obtain ⟨⟨g, hg, h1, _⟩, _, _⟩ := h
  rw [h1, Int.natAbs_mul]
  exact Nat.le_mul_of_pos_left _ (by omega)
theorem LowOk.leD {n d N D : Int} (h : LowOk n d N D) : D.natAbs ≤ d.natAbs := by
  obtain ⟨⟨g, hg, _, h1⟩, _, _⟩ := h
  rw [h1, Int.natAbs_mul]
  exact Nat.le_mul_of_pos_left _ (by omega)
/-! ## fractions as values -/
def fracB : List V → Bool
  | [.int n, .int d] => decide (1 ≤ d) && (Nat.gcd n.natAbs d.natAbs == 1)
  | _ => false
/-- x is a value of which is_fraction is b -/
def FV (K : PySem.W.Frag) (H : Hp) (x : V) (b : Bool) : Prop := ∃ n, Ty K H x n ∧ (n = "tuple" → ∃ a xs, x = .ref a ∧ SqT K H a xs ∧ (∀ v ∈ xs, ∃ m, Ty K H v m) ∧ b = fracB xs) ∧ (n ≠ "tuple" → b = false)
theorem Ty.same {K : PySem.W.Frag} {H H' : Hp} (e : Same H H') {v : V} {n : String} (h : Ty K H v n) : Ty K H' v n := by
  cases h with
  | non => exact .non
  | bl b => exact .bl b
  | int i => exact .int i
  | str x => exact .str x
  | tup h => exact .tup (tSame e h)
  | lst h => exact .lst (e.seq h)
theorem FV.same {K : PySem.W.Frag} {H H' : Hp} (e : Same H H') {x : V} {b : Bool} (h : FV K H x b) : FV K H' x b := by
  obtain ⟨n, t, h1, h2⟩ := h
  refine ⟨n, t.same e, fun q => ?_, h2⟩
  obtain ⟨a, xs, e1, e2, e3, e4⟩ := h1 q
  exact ⟨a, xs, e1, tSame e e2, fun v hv => by obtain ⟨m, hm⟩ := e3 v hv; exact ⟨m, hm.same e⟩, e4⟩
theorem FV.tup {K : PySem.W.Frag} {H : Hp} {a : Addr} {xs : List V} (h : SqT K H a xs) (hm : ∀ v ∈ xs, ∃ m, Ty K H v m) : FV K H (.ref a) (fracB xs) :=
  ⟨"tuple", .tup h, fun _ => ⟨a, xs, rfl, h, hm, rfl⟩, fun q => absurd rfl q⟩
theorem FV.ok {K : PySem.W.Frag} {H : Hp} {a : Addr} {n d : Int} (h : SqT K H a [.int n, .int d]) (h1 : 0 < d) (h2 : Nat.gcd n.natAbs d.natAbs = 1) : FV K H (.ref a) true := by
  have e : fracB [.int n, .int d] = true := by
    show (decide (1 ≤ d) && (Nat.gcd n.natAbs d.natAbs == 1)) = true
    rw [h2, decide_eq_true (show 1 ≤ d by omega)]
    rfl
  rw [← e]
  exact FV.tup h two_ints
theorem FV.no {K : PySem.W.Frag} {H : Hp} {v : V} {n : String} (h : Ty K H v n) (hn : n ≠ "tuple") : FV K H v false := ⟨n, h, fun q => absurd q hn, fun _ => rfl⟩
end My
namespace My
open PySem L2
/-- an error of the class at C with this name is raised -/
def Rz (C : Addr) (x : V) (H : Hp) (E : XK) : Prop := ∀ d, H d = none → E (.ref C) (some d) (upd H d (.xd [(("name" : Str), x)]))
theorem pow200 {i : Int} (h : i.natAbs ≤ 2 ^ 200) : i.natAbs < 2 ^ 9000 := Nat.lt_of_le_of_lt h (Nat.pow_lt_pow_right (by decide) (by decide))
end My
namespace My
theorem near_two {n d st : Int} (d0 : 0 < d) (h1 : st * d ≤ n) (h2 : n < (st + 1) * d) : (2 * n + d) / (2 * d) = if 2 * (st + 1) * d ≤ 2 * n + d then st + 1 else st := by
  have e1 : 2 * (st + 1) * d = (st + 1) * (2 * d) := by grind
  have e2 : (st + 2) * (2 * d) = 2 * ((st + 1) * d) + 2 * d := by grind
  have e3 : st * (2 * d) = 2 * (st * d) := by grind
  have e4 : (st + 1) * (2 * d) = 2 * ((st + 1) * d) := by grind
  have p : 0 < 2 * d := by omega
  by_cases q : 2 * (st + 1) * d ≤ 2 * n + d
  · rw [if_pos q]
    have a1 := (Int.le_ediv_iff_mul_le p).mpr (show (st + 1) * (2 * d) ≤ 2 * n + d by omega)
    have a2 := (Int.ediv_lt_iff_lt_mul p).mpr (show 2 * n + d < (st + 2) * (2 * d) by omega)
    omega
  · rw [if_neg q]
    have a1 := (Int.le_ediv_iff_mul_le p).mpr (show st * (2 * d) ≤ 2 * n + d by omega)
    have a2 := (Int.ediv_lt_iff_lt_mul p).mpr (show 2 * n + d < (st + 1) * (2 * d) by omega)
    omega
end My
namespace My
open PySem L2
theorem fracB_ne {xs : List V} (h : xs.length ≠ 2) : fracB xs = false := by
  unfold fracB
  split
  · exact absurd rfl h
  · rfl
end My

namespace My
open PySem L2
/-! ## fractions at an address -/
structure FrAt (K : PySem.W.Frag) (H : Hp) (a : Addr) (n d : Int) : Prop where
  at_ : SqT K H a [.int n, .int d]
  pos : 0 < d
  one : Nat.gcd n.natAbs d.natAbs = 1
  bn : n.natAbs ≤ 2 ^ 67
  bd : d.natAbs ≤ 2 ^ 50
section
variable {K : PySem.W.Frag} {H H' : Hp} {s b p a c D : Addr} {n d m e : Int} {o : HO}
theorem FrAt.same (e : Same H H') (h : FrAt K H a n d) : FrAt K H' a n d := { h with at_ := tSame e h.at_ }
theorem FrAt.but (e : But s H H') (S : Strm H s b) (h : FrAt K H a n d) : FrAt K H' a n d := { h with at_ := tButS e S h.at_ }
theorem FrAt.over (q : H p = none) (h : FrAt K H a n d) : FrAt K (upd H p o) a n d := h.same (same_new q)
theorem FrAt.put (q : ∃ ys, H D = some (.lst ys)) (h : FrAt K H a n d) : FrAt K (upd H D o) a n d := { h with at_ := tAt q h.at_ }
theorem FrAt.fv (h : FrAt K H a n d) : FV K H (.ref a) true := FV.ok h.at_ h.pos h.one
theorem wide {i j : Int} {x y : Nat} (hi : i.natAbs ≤ 2 ^ x) (hj : j.natAbs ≤ 2 ^ y) (h : x + y + 2 ≤ 1000000 := by decide) : CMulW i j :=
  wide_mul (a := x + 1) (b := y + 1) (Nat.lt_of_le_of_lt hi (Nat.pow_lt_pow_right (by decide) (by omega))) (Nat.lt_of_le_of_lt hj (Nat.pow_lt_pow_right (by decide) (by omega))) (by omega) (by omega) (by omega)
theorem mul_le {i j : Int} {x y : Nat} (hi : i.natAbs ≤ 2 ^ x) (hj : j.natAbs ≤ 2 ^ y) : (i * j).natAbs ≤ 2 ^ (x + y) := by
  rw [Int.natAbs_mul, Nat.pow_add]; exact Nat.mul_le_mul hi hj
theorem pow_up {i : Int} {x y : Nat} (h : i.natAbs ≤ 2 ^ x) (hy : x ≤ y := by decide) : i.natAbs ≤ 2 ^ y := Nat.le_trans h (Nat.pow_le_pow_right (by decide) hy)
theorem add_le {i j : Int} {x : Nat} (hi : i.natAbs ≤ 2 ^ x) (hj : j.natAbs ≤ 2 ^ x) : (i + j).natAbs ≤ 2 ^ (x + 1) := by
  have := Int.natAbs_add_le i j
  rw [Nat.pow_succ]; omega
theorem sub_le {i j : Int} {x : Nat} (hi : i.natAbs ≤ 2 ^ x) (hj : j.natAbs ≤ 2 ^ x) : (i - j).natAbs ≤ 2 ^ (x + 1) := by
  have := Int.natAbs_sub_le i j
  rw [Nat.pow_succ]; omega
theorem mul_ne {i j : Int} (hi : 0 < i) (hj : 0 < j) : i * j ≠ 0 := by
  have := Int.mul_pos hi hj; omega
theorem mul_ne' {i j : Int} (hi : 0 < i) (hj : j ≠ 0) : i * j ≠ 0 := Int.mul_ne_zero (by omega) hj
end
/-! ## what a try of the law tells -/
abbrev Rs := (Int × Int) ⊕ Str ⊕ Bool
def TV (K : PySem.W.Frag) (H : Hp) (v : V) : Rs → Prop
  | .inl (a, b) => ∃ p, v = .ref p ∧ SqT K H p [.int a, .int b]
  | .inr (.inl s) => ∃ p, v = .ref p ∧ SqL K H p [.str "refused", .str s]
  | .inr (.inr b) => v = .bl b
theorem TV.same {K : PySem.W.Frag} {H H' : Hp} (e : Same H H') {v : V} {r : Rs} (h : TV K H v r) : TV K H' v r := by
  match r, h with
  | .inl (a, b), ⟨p, e1, h⟩ => exact ⟨p, e1, tSame e h⟩
  | .inr (.inl s), ⟨p, e1, h⟩ => exact ⟨p, e1, e.seq h⟩
  | .inr (.inr b), h => exact h
theorem lAt {K : PySem.W.Frag} {H : Hp} {a D : Addr} {xs : List V} {o : HO} (n : a ≠ D) (h : SqL K H a xs) : SqL K (upd H D o) a xs := by
  rcases h with (h | ⟨o, h⟩) | h
  · exact .inl (.inl (by rw [upd_ne n]; exact h))
  · exact .inl (.inr ⟨o, by rw [upd_ne n]; exact h⟩)
  · exact .inr h
theorem TV.put {K : PySem.W.Frag} {H : Hp} {D : Addr} {o : HO} (q : ∃ ys, H D = some (.lst ys)) {v : V} {r : Rs} (n : v ≠ .ref D) (h : TV K H v r) : TV K (upd H D o) v r := by
  match r, h with
  | .inl (a, b), ⟨p, e1, h⟩ => exact ⟨p, e1, tAt q h⟩
  | .inr (.inl s), ⟨p, e1, h⟩ => exact ⟨p, e1, lAt (fun z => n (by rw [e1, z])) h⟩
  | .inr (.inr b), h => exact h
theorem two_get {α : Type} {P : α → α → Prop} {a b c d : α} (h0 : P a c) (h1 : P b d) : ∀ (i : Nat) u v, [a, b][i]? = some u → [c, d][i]? = some v → P u v := by
  intro i u v hu hv
  rcases (show i = 0 ∨ i = 1 by have := (List.getElem?_eq_some_iff.mp hu).1; simp at this; omega) with rfl | rfl
  · cases hu; cases hv; exact h0
  · cases hu; cases hv; exact h1
theorem TV.dq {K : PySem.W.Frag} {H : Hp} {u v : V} {r : Rs} (h : TV K H u r) (g : TV K H v r) : Dq K H 3 u v := by
  match r, h, g with
  | .inl (a, b), ⟨p, e1, h⟩, ⟨q, e2, g⟩ => rw [e1, e2]; exact .tup h g rfl (Nat.le_of_ble_eq_true rfl) (two_get (.int 1 _) (.int 1 _))
  | .inr (.inl s), ⟨p, e1, h⟩, ⟨q, e2, g⟩ => rw [e1, e2]; exact .lst h g rfl (Nat.le_of_ble_eq_true rfl) (two_get (.str 1 _) (.str 1 _))
  | .inr (.inr b), h, g =>
    have h : u = .bl b := h
    have g : v = .bl b := g
    rw [h, g]; exact .bl 2 b
/-- what the five give -/
def res (i : Int) (n d m e : Int) : Rs :=
  if i = 0 then .inl (lowN (n * e + m * d) (d * e), lowD (n * e + m * d) (d * e))
  else if i = 1 then .inl (lowN (n * e - m * d) (d * e), lowD (n * e - m * d) (d * e))
  else if i = 2 then .inl (lowN (n * m) (d * e), lowD (n * m) (d * e))
  else if i = 3 then (if m = 0 then .inr (.inl "second") else .inl (lowN (n * e) (d * m), lowD (n * e) (d * m)))
  else .inr (.inr (decide (n * e < m * d)))
end My
namespace My
open PySem L2
/-- a divisor: an int other than 0 -/
def okD : V → Bool
  | .int i => decide (i ≠ 0)
  | _ => false
theorem log_lt {i : Int} (h : i.natAbs ≤ 2 ^ 73) : i.natAbs.log2 < 1920 := by
  by_cases z : i.natAbs = 0
  · rw [z]; decide
  · exact (Nat.log2_lt z).mpr (Nat.lt_of_le_of_lt h (Nat.pow_lt_pow_right (by decide) (by decide)))
end My
namespace PySem
namespace Gx
open PySem.W PySem.Calls PyProof.Rows
section
variable {prog : Program} {w : World} {A : Around} {R : Result → Shared → Prop} {I : Addr}
/-- all's loop: m bounds the turns that are left -/
theorem all_loop (W : Nat → Shared → Prop) (step : ∀ m s, W m s → wpAny (model prog w) A.in1 (pyNext (.ref I)) (fun r s' => match r with
    | none => R (.ok (.ret (.bool true))) s'
    | some v => ∃ b, v = .bool b ∧ if b = true then ∃ m', m' < m ∧ W m' s' else R (.ok (.ret (.bool false))) s') (fun e s' => R (.error e) s') s) :
    ∀ (m : Nat) (s : Shared), W m s → codeAny (model prog w) A (.builtin "all.loop" ⟨[.ref I], []⟩) R s := by
  intro m
  induction m using Nat.strongRecOn with
  | ind m ih =>
    intro s hW
    refine codeAny_builtin F.entry_all_loop ?_
    rw [Around.under_plainId F.plain_all_loop _]
    show wpAny _ A.in1 (pyNext (.ref I) >>= _) _ _ s
    refine wpAny_bind (wpAny_mono (step m s hW) (fun r s' h => ?_) fun _ _ e => e)
    cases r with
    | none => exact wpAny_bind (wpAny_rule (wpAny_pure h))
    | some v =>
      obtain ⟨b, rfl, h⟩ := h
      refine wpAny_bind (wpAny_holding (wpAny_truthy_bool ?_))
      refine wpAny_bind (wpAny_letGo ?_)
      cases b with
      | true =>
        simp only [if_true] at h ⊢
        obtain ⟨m', hm, hW'⟩ := h
        exact wpAny_pure ⟨plainId_quiet F.plain_all_loop _, ih m' hm s' hW'⟩
      | false =>
        simp only [Bool.false_eq_true, if_false] at h ⊢
        exact wpAny_bind (wpAny_rule (wpAny_pure h))
theorem any_loop (W : Nat → Shared → Prop) (step : ∀ m s, W m s → wpAny (model prog w) A.in1 (pyNext (.ref I)) (fun r s' => match r with
    | none => R (.ok (.ret (.bool false))) s'
    | some v => ∃ b, v = .bool b ∧ if b = true then R (.ok (.ret (.bool true))) s' else ∃ m', m' < m ∧ W m' s') (fun e s' => R (.error e) s') s) :
    ∀ (m : Nat) (s : Shared), W m s → codeAny (model prog w) A (.builtin "any.loop" ⟨[.ref I], []⟩) R s := by
  intro m
  induction m using Nat.strongRecOn with
  | ind m ih =>
    intro s hW
    refine codeAny_builtin F.entry_any_loop ?_
    rw [Around.under_plainId F.plain_any_loop _]
    show wpAny _ A.in1 (pyNext (.ref I) >>= _) _ _ s
    refine wpAny_bind (wpAny_mono (step m s hW) (fun r s' h => ?_) fun _ _ e => e)
    cases r with
    | none => exact wpAny_bind (wpAny_rule (wpAny_pure h))
    | some v =>
      obtain ⟨b, rfl, h⟩ := h
      refine wpAny_bind (wpAny_holding (wpAny_truthy_bool ?_))
      refine wpAny_bind (wpAny_letGo ?_)
      cases b with
      | true =>
        simp only [if_true] at h ⊢
        exact wpAny_bind (wpAny_rule (wpAny_pure h))
      | false =>
        simp only [Bool.false_eq_true, if_false] at h ⊢
        obtain ⟨m', hm, hW'⟩ := h
        exact wpAny_pure ⟨plainId_quiet F.plain_any_loop _, ih m' hm s' hW'⟩
end
/-! ### the generator's side -/
/-- while the generator sleeps: the heap stands, the table of generators stays bare -/
structure Sl (s s' : Shared) : Prop where
  os : s'.os = s.os
  bare : AllBare s'.gens
  heap : s'.heap = s.heap
/-- a value is handed out: C of it; then on, if it is one that lets the consumer go on -/
def Yx (C : Value → Shared → Prop) (Go : Value → Prop) : Protocol := fun _ _ v s kap => C v s ∧ (Go v → ∀ s', Sl s s' → kap (.send .none) s')
def Rx (Dn : Shared → Prop) : GenEnd := fun _ _ r s => r = .ok .next ∧ Dn s
section
variable {prog : Program} {w : World} {A : Around}
theorem seg_loop {elt tg iter : Expr} {ifs : List Expr} {scope : Scope} {pos : Pos} {I : Addr} {cenv : Env} {C : Value → Shared → Prop} {Go : Value → Prop} {Dn : Shared → Prop} {B : Around}
    (hB : A.over (.compLoop (.GeneratorExp elt [⟨tg, iter, ifs, 0⟩] scope pos) 0 (.ref I) .none cenv) [] = B) (hco : cenv.scope.isCoroutine = false) (W : Nat → Shared → Prop)
    (turn : ∀ m s, W m s → wpAny (model prog w) B (pyNext (.ref I)) (fun r s1 => match r with
      | none => Dn s1
      | some v => wpAny (model prog w) B (letOwnedTupleGo tg (.ref I) v) (fun _ s1' => wpAny (model prog w) B (assign tg cenv v) (fun _ s2 => wpAny (model prog w) B (forIn ifs true fun c r => if r = true then do let ok ← isTrue c cenv (eval c cenv); pure (ForInStep.yield ok) else pure (ForInStep.yield r)) (fun ok s3 =>
          if ok = true then wpAny (model prog w) B (eval elt cenv) (fun y s4 => C y s4 ∧ (Go y → ∃ m', m' < m ∧ ∀ s', Sl s4 s' → W m' s')) (fun _ _ => False) s3 else ∃ m', m' < m ∧ W m' s3) (fun _ _ => False) s2) (fun _ _ => False) s1') (fun _ _ => False) s1) (fun _ _ => False) s) :
    ∀ (m n : Nat) (s₀ s : Shared), m < n → W m s → Seg (model prog w) A (Rx Dn) (Yx C Go) n s₀
      (.compLoop (.GeneratorExp elt [⟨tg, iter, ifs, 0⟩] scope pos) 0 (.ref I) .none cenv)
      ((model prog w).den (.compLoop (.GeneratorExp elt [⟨tg, iter, ifs, 0⟩] scope pos) 0 (.ref I) .none cenv)) [] s := by
  subst hB
  intro m
  induction m using Nat.strongRecOn with
  | ind m ih =>
    intro n s₀ s hn hW
    show Seg _ A _ _ _ s₀ _ ((compTurn (.GeneratorExp elt [⟨tg, iter, ifs, 0⟩] scope pos) 0 (.ref I) .none cenv).onRaise (leaving cenv)) [] s
    rw [compTurn_gen, Sem.onRaise_eq_wrap]
    refine seg_bind_wrap (wpAny_standAt ?_)
    refine seg_bind_wrap (wpAny_mono (turn m s hW) (fun r s1 h => ?_) fun _ _ e => e.elim)
    cases r with
    | none => exact seg_end (.ok .next) ⟨rfl, h⟩
    | some v =>
      refine seg_bind_wrap (wpAny_mono h (fun _ s1' h => ?_) fun _ _ e => e.elim)
      refine seg_bind_wrap (wpAny_mono h (fun _ s2 h => ?_) fun _ _ e => e.elim)
      refine seg_bind_wrap (wpAny_mono h (fun ok s3 h => ?_) fun _ _ e => e.elim)
      cases ok with
      | false =>
        simp only [Bool.false_eq_true, if_false] at h ⊢
        obtain ⟨m', hm, hW'⟩ := h
        exact seg_again rfl (ih m' hm n s₀ s3 (by omega) hW')
      | true =>
        simp only [if_true] at h ⊢
        have hy : ∀ v, yieldOut cenv v = yieldValue v := fun v => by simp only [yieldOut, hco, Bool.false_eq_true, if_false]
        simp only [hy]
        rw [Sem.bind_eq_wrap', Sem.bind_eq_wrap', Sem.wrap_wrap, Sem.wrap_wrap]
        refine seg_wrap (wpAny_mono h (fun y s4 h => ?_) fun _ _ e => e.elim)
        obtain ⟨hC, hgo⟩ := h
        obtain ⟨n', rfl⟩ : ∃ n', n = n' + 1 := ⟨n - 1, by omega⟩
        refine seg_at (seg_yield rfl rfl rfl ⟨hC, fun gy s'' hs => ?_⟩)
        obtain ⟨m', hm, hW'⟩ := hgo gy
        exact seg_again rfl (ih m' hm n' s'' s'' (by omega) (hW' s'' hs))
/-- from its beginning -/
theorem seg_start {elt tg iter : Expr} {ifs : List Expr} {scope : Scope} {pos : Pos} {I : Addr} {cenv : Env} {C : Value → Shared → Prop} {Go : Value → Prop} {Dn : Shared → Prop} {n : Nat} {s₀ s : Shared}
    (self : ∀ (B : Around) (Q : Value → Shared → Prop) (E : Value → Shared → Prop), Q (.ref I) s → wpAny (model prog w) B (pyIter (.ref I)) Q E s)
    (loop : Seg (model prog w) A (Rx Dn) (Yx C Go) n s₀ (.compLoop (.GeneratorExp elt [⟨tg, iter, ifs, 0⟩] scope pos) 0 (.ref I) .none cenv)
      ((model prog w).den (.compLoop (.GeneratorExp elt [⟨tg, iter, ifs, 0⟩] scope pos) 0 (.ref I) .none cenv)) [] s) :
    Seg (model prog w) A (Rx Dn) (Yx C Go) n s₀ (.compStart (.GeneratorExp elt [⟨tg, iter, ifs, 0⟩] scope pos) 0 (.ref I) .none cenv)
      ((model prog w).den (.compStart (.GeneratorExp elt [⟨tg, iter, ifs, 0⟩] scope pos) 0 (.ref I) .none cenv)) [] s := by
  show Seg _ A _ _ _ s₀ _ ((compStart (.GeneratorExp elt [⟨tg, iter, ifs, 0⟩] scope pos) 0 (.ref I) .none cenv).onRaise (leaving cenv)) [] s
  unfold compStart
  rw [Sem.onRaise_eq_wrap]
  show Seg _ A _ _ _ s₀ _ ((ask >>= _).wrap _ _ _ _) [] s
  refine seg_bind_wrap (wpAny_askSetting ?_)
  split
  · exact seg_again rfl loop
  · refine seg_bind_wrap (wpAny_rule ?_)
    show Seg _ A _ _ _ s₀ _ ((standAt iter.pos >>= _).wrap _ _ _ _) [] s
    exact seg_bind_wrap (wpAny_standAt (seg_bind_wrap (self _ _ _ (seg_again rfl loop))))
end
end Gx
end PySem
/-! ### the two together: all(g), any(g), g a generator expression not yet begun -/
namespace PySem
namespace Gx
open PySem.W PySem.Calls PyProof.Rows L2 GenW
/-- the heap is extended; the table of generators stays bare -/
structure Ex (s s' : Shared) : Prop where
  os : s'.os = s.os
  bare : AllBare s'.gens
  heap : ∀ b o, s.heap.get? b = some o → s'.heap.get? b = some o
/-- the end of the generator -/
def Rg (Dn : Shared → Prop) : GenEnd := fun _ _ r s₁ => ((r = .ok (.ret .none) ∨ r = .ok .next) ∧ Dn s₁) ∨ ∃ e, r = .error e ∧ False
theorem seg_rg {M : Model} {A : Around} {C : Value → Shared → Prop} {Go : Value → Prop} {Dn : Shared → Prop} {n : Nat} {s₀ : Shared} {c : Code} {t : Sem PySem.Fin} {fs : List Frame} {s : Shared} (h : Seg M A (Rx Dn) (Yx C Go) n s₀ c t fs s) : Seg M A (Rg Dn) (Yx C Go) n s₀ c t fs s :=
  seg_imp (fun _ _ r s h => .inl ⟨.inr h.1, h.2⟩) (fun _ _ v s kap kap' hk h => ⟨h.1, fun gv s' hs => hk _ _ (h.2 gv s' hs)⟩) n h
section
variable {prog : Program} {w : World} {A : Around} {E : Value → Shared → Prop} {a : Addr} {g : Nat}
/-- a value that is handed out: its generator stands; what then is, if the consumer stops at it -/
def Cx (a : Addr) (g : Nat) (stop : Bool) (Q : Shared → Prop) (v : Value) (s : Shared) : Prop :=
  ∃ b, v = .bool b ∧ s.heap.IsGen a g ∧ s.heap.NoLimit ∧ AllBare s.gens ∧ (b = stop → ∀ s', Sl s s' → Q s')
def Dx (Q : Shared → Prop) (s : Shared) : Prop := AllBare s.gens ∧ ∀ s', Ex s s' → Q s'
/-- the generator sleeps, m items at most are left -/
def Wx (prog : Program) (w : World) (A : Around) (a : Addr) (g : Nat) (stop : Bool) (C : Value → Shared → Prop) (Dn : Shared → Prop) (m : Nat) (s : Shared) : Prop :=
  s.heap.IsGen a g ∧ s.heap.NoLimit ∧ AllBare s.gens ∧ ∃ gs, s.gens[g]? = some gs ∧ gs.Goes (model prog w) A (Rg Dn) (Yx C fun v => v = .bool (!stop)) m (.send .none) (s.setGen g .running)
theorem next_x {stop : Bool} {Q1 Q2 : Shared → Prop} {R : Option Value → Shared → Prop} {m : Nat} {s : Shared} (hh : A.handled = none) (hd : A.depth < recursionLimit)
    (hW : Wx prog w A.in1 a g stop (Cx a g stop Q1) (Dx Q2) m s)
    (hnone : ∀ s', Q2 s' → R none s')
    (hstop : ∀ s', Q1 s' → R (some (.bool stop)) s')
    (hgo : ∀ s' m', m' < m → Wx prog w A.in1 a g stop (Cx a g stop Q1) (Dx Q2) m' s' → R (some (.bool (!stop))) s') :
    wpAny (model prog w) A (pyNext (.ref a)) R E s := by
  obtain ⟨hg, hl, hb, gs, hgs, hgoes⟩ := hW
  have hgl : g < s.gens.size := (Array.getElem?_eq_some_iff.mp hgs).1
  refine wpAny_gsz (n := g + 1) hgl (next_genG (F := fun _ _ s₁ => Dx Q2 s₁) (Er := fun _ _ => False) hh hl hd hg hgs hgoes (fun v s₁ gs' hbare hv => ?_) (fun s₁ hp h' hk => ?_) fun e s₁ he => he.elim)
  · intro hsz
    obtain ⟨⟨b, rfl, hg1, hl1, hb1, hs1⟩, hk⟩ := hv
    have hsz1 : g < s₁.gens.size := by
      have q : (s₁.setGen g gs').gens.size = s₁.gens.size := setGen_size _ _ _
      have hsz' : g + 1 ≤ (s₁.setGen g gs').gens.size := hsz
      omega
    by_cases e : b = stop
    · subst e
      exact hstop _ (hs1 rfl _ ⟨rfl, allBare_setGen hb1 hbare, rfl⟩)
    · have e2 : b = !stop := by cases b <;> cases stop <;> first | rfl | exact absurd rfl e
      subst e2
      cases m with
      | zero => exact (hk rfl s₁ ⟨rfl, hb1, rfl⟩).elim
      | succ k => exact hgo _ k (Nat.lt_succ_self k) ⟨hg1, hl1, allBare_setGen hb1 hbare, gs', setGen_at hsz1, hk rfl _ ⟨rfl, allBare_setGen (s := s₁.setGen g gs') (allBare_setGen hb1 hbare) rfl, rfl⟩⟩
  · intro hsz
    exact hnone _ (hp.2 _ ⟨rfl, allBare_setGen hp.1 rfl, hk⟩)
theorem call_all_gen {Q : Value → Shared → Prop} {m : Nat} {s : Shared} (hh : A.handled = none) (hd : A.depth + 1 < recursionLimit)
    (hW : Wx prog w A.in1.in1 a g false (Cx a g false fun s' => Q (.bool false) s') (Dx fun s' => Q (.bool true) s') m s) :
    wpAny (model prog w) A (call (.builtin "all") [.ref a]) Q E s := by
  refine call_function_tree F.kind_all F.plain_all F.entry_all (F.args_all1 _) ?_
  unfold Builtin.«all»
  refine wpAny_bind (m := oneArg "all" _) (wpAny_pure ?_)
  refine wpAny_bind (wpAny_pyIter_gen hW.1 ?_)
  refine wpAny_pure ⟨plainId_quiet F.plain_all_loop _, ?_⟩
  refine all_loop (A := A) (fun m s => Wx prog w A.in1.in1 a g false (Cx a g false fun s' => Q (.bool false) s') (Dx fun s' => Q (.bool true) s') m s) (fun m s h => ?_) m s hW
  exact next_x (A := A.in1) hh (by show A.depth < _; omega) h (fun s' q => q) (fun s' q => ⟨false, rfl, q⟩) fun s' m' hm h' => ⟨true, rfl, m', hm, h'⟩
theorem call_any_gen {Q : Value → Shared → Prop} {m : Nat} {s : Shared} (hh : A.handled = none) (hd : A.depth + 1 < recursionLimit)
    (hW : Wx prog w A.in1.in1 a g true (Cx a g true fun s' => Q (.bool true) s') (Dx fun s' => Q (.bool false) s') m s) :
    wpAny (model prog w) A (call (.builtin "any") [.ref a]) Q E s := by
  refine call_function_tree F.kind_any F.plain_any F.entry_any (F.args_any1 _) ?_
  unfold Builtin.«any»
  refine wpAny_bind (m := oneArg "any" _) (wpAny_pure ?_)
  refine wpAny_bind (wpAny_pyIter_gen hW.1 ?_)
  refine wpAny_pure ⟨plainId_quiet F.plain_any_loop _, ?_⟩
  refine any_loop (A := A) (fun m s => Wx prog w A.in1.in1 a g true (Cx a g true fun s' => Q (.bool true) s') (Dx fun s' => Q (.bool false) s') m s) (fun m s h => ?_) m s hW
  exact next_x (A := A.in1) hh (by show A.depth < _; omega) h (fun s' q => q) (fun s' q => ⟨true, rfl, q⟩) fun s' m' hm h' => ⟨false, rfl, m', hm, h'⟩
end
end Gx
end PySem
/-! ### a generator expression is made -/
namespace PySem
namespace Gx
open PySem.W PySem.Calls PyProof.Rows L2 GenW
section
variable {X : L2.Cx} {pins : List (Addr × Obj)} {σ : L2.St} {H : Hp} {s : Shared}
theorem gen_make {c P : Addr} {elt tg iter : Expr} {ifs : List Expr} {x : Str} {gpos : Pos} {scope : Scope} {wi : TI} {k : Nat} {Q' : Value → Shared → Prop} {R : It → Hp → Prop}
    (hr : Room k X.A) (TB : GxR.TabB X.base X.mg c P) (hcode : X.env.code = .ref c) (S : GxR.GenS X.env scope x) (hi : PI X tg iter wi) (hs : ∀ v, genFold iter X.env v = pure v)
    (I : Inv X pins σ H s) (h : wi σ H fun J H1 => GxR.TabG H1 P ∧ R J H1)
    (hQ : ∀ (it : Addr) (fp : List Addr) (tn : Nat → Heap → Prop) (J : It) (H1 H2 : Hp) (code : Value) (C a : Addr) (g : Nat) (s4 s5 : Shared), R J H1 → GxR.Tabbed P H1 H2 → Inv X pins σ H2 s4 → s4.heap.objs.size = C → (∀ b o, s4.heap.get? b = some o → s5.heap.get? b = some o) → s5.os = s4.os → tn 0 s4.heap → Inv X pins σ H2 s5 → Turn X.prog X.w X.K tg J fp it tn → tn 0 s5.heap → (∀ b ∈ fp, FpOk X pins H2 b) →
      s5.heap.Ns C (fun y => if y = ".0" then some (.ref it) else none) → FpOk X pins H2 C → C ∉ fp → s5.heap.IsGen a g → FpOk X pins H2 a → a ∉ fp → a ≠ C →
      s5.gens[g]? = some (.fresh (.compStart (.GeneratorExp elt [⟨tg, iter, ifs, 0⟩] scope gpos) 0 (.ref it) .none (genEnv scope (cloFrom X.env.cells scope.names []) C code builtinsNs X.env))) → Q' (.ref a) s5) :
    wpAny (model X.prog X.w) X.A (eval (.GeneratorExp elt [⟨tg, iter, ifs, 0⟩] scope gpos) X.env) Q' X.xe s := by
  refine wpAny_GeneratorExp_make S.co (closure_ok S.free) S.cell S.dot S.kind (by have := hr.dp; omega) ?_ hs
  refine thn (hi.run pins s σ H _ I h) fun xv s1 h1 => thn h1 fun itv s2 h2 => ?_
  obtain ⟨it, fp, tn, J, H1, rfl, I2, T, st2, f2, ⟨ps, hP, ht⟩, q⟩ := h2
  have hPs : s2.heap.get? P = some { cls := .none, data := .fields ps } := I2.hok P _ hP
  have hPlt : P < s2.heap.objs.size := Heap.lt_size hPs
  have cd : PySem.W.CodeHd s2.heap c P := TB.code.keeps fun b u e => I2.bk b u e
  have cont : ∀ (code : Value) (h3 : Heap) (tk : Nat) (ps' : Array Value), Heap.ExtBut P s2.heap h3 → s2.heap.objs.size ≤ h3.objs.size → h3.get? P = some { cls := .none, data := .fields ps' } → (∃ more, ps' = ps ++ more) → TriplesOk ps'.toList →
      wpAny (model X.prog X.w) X.A (builtinsFor X.env.globals X.env.builtins) (fun bi s₄ =>
        ∀ h', h'.Ns s₄.heap.objs.size (fun y => if y = ".0" then some (.ref it) else none) → Heap.SameBut s₄.heap.objs.size (s₄.heap.push { cls := .type "frame", data := .dict #[] }) h' →
          Q' (.ref h'.objs.size) { s₄ with
            gens := s₄.gens.push (.fresh (.compStart (.GeneratorExp elt [⟨tg, iter, ifs, 0⟩] scope gpos) 0 (.ref it) .none (genEnv scope (cloFrom X.env.cells scope.names []) s₄.heap.objs.size code bi X.env))),
            toks := s₄.toks + 1 + 1 + 1,
            heap := h'.push { cls := .type "generator", data := .fields #[.int s₄.gens.size 0, .str "<genexpr>" (s₄.toks + 1), .str (X.env.qual ++ "<genexpr>") (s₄.toks + 1 + 1)] } }) X.xe { s2 with heap := h3, toks := tk } := by
    intro code h3 tk ps' hx hsz hP3 hmore ht3
    obtain ⟨bm, ob, e1, e2, e3, e4, e5, e6, e7, e8⟩ := TB.bm
    refine wpAny_builtinsFor (m := X.mg) (by rw [I2.ok.glob]; exact (I2.mod.glob.keeps I2.bk).extBut hx TB.gP) e1 e2 (hx _ _ e4 (I2.bk _ _ e5)) e6 e7 e8 ?_
    intro h' hn' hs'
    have hsz' : h'.objs.size = h3.objs.size + 1 := by rw [hs'.1, Heap.size_push]
    have keep' : ∀ b o, h3.get? b = some o → h'.get? b = some o := fun b o e => hs'.extBut b o (Nat.ne_of_lt (Heap.lt_size e)) (Heap.get?_push_of_some _ e)
    have keep5 : ∀ b o, b ≠ P → s2.heap.get? b = some o → (h'.push { cls := .type "generator", data := .fields #[.int s2.gens.size 0, .str "<genexpr>" (tk + 1), .str (X.env.qual ++ "<genexpr>") (tk + 1 + 1)] }).get? b = some o :=
      fun b o hb e => Heap.get?_push_of_some _ (keep' b o (hx b o hb e))
    obtain ⟨more, em⟩ := hmore
    have nfP : ∀ b ∈ fp, b ≠ P := fun b hb e => by
      have := (f2 b hb).1
      rw [e, hP] at this
      cases this
    have fok : ∀ b, FpOk X pins H1 b → FpOk X pins (upd H1 P (.tbl (ps ++ more))) b := fun b hb => by
      have nb : b ≠ P := fun e => by
        have := hb.1
        rw [e, hP] at this
        cases this
      exact ⟨by rw [upd_ne nb]; exact hb.1, hb.2⟩
    have hCf : (h3.objs.size : Nat) ∉ fp := fun hb => by
      obtain ⟨o, ho, _⟩ := T.obj _ _ st2 _ hb
      exact absurd (Nat.lt_of_lt_of_le (Heap.lt_size ho) hsz) (Nat.lt_irrefl _)
    have hge : s2.heap.objs.size ≤ h'.objs.size := by rw [hsz']; exact Nat.le_succ_of_le hsz
    have haf : (h'.objs.size : Nat) ∉ fp := fun hb => by
      obtain ⟨o, ho, _⟩ := T.obj _ _ st2 _ hb
      exact absurd (Nat.lt_of_lt_of_le (Heap.lt_size ho) hge) (Nat.lt_irrefl _)
    have J5 := GxR.inv_tab (more := more) (h' := h'.push { cls := .type "generator", data := .fields #[.int s2.gens.size 0, .str "<genexpr>" (tk + 1), .str (X.env.qual ++ "<genexpr>") (tk + 1 + 1)] })
      (g' := s2.gens.push (.fresh (.compStart (.GeneratorExp elt [⟨tg, iter, ifs, 0⟩] scope gpos) 0 (.ref it) .none (genEnv scope (cloFrom X.env.cells scope.names []) h3.objs.size code builtinsNs X.env)))) (d' := s2.drawn) (t' := tk + 1 + 1 + 1)
      I2 hP keep5 (by rw [← em]; exact Heap.get?_push_of_some _ (keep' P _ hP3)) (I2.bare.push rfl)
    have J4 := GxR.inv_tab (more := more) (h' := h3) (g' := s2.gens) (d' := s2.drawn) (t' := tk) I2 hP (fun b o hb e => hx b o hb e) (by rw [← em]; exact hP3) I2.bare
    refine hQ it fp tn J H1 (upd H1 P (.tbl (ps ++ more))) code h3.objs.size h'.objs.size s2.gens.size _ _ q ⟨⟨ps ++ more, upd_same, by rw [← em]; exact ht3⟩, fun b hb => upd_ne hb⟩ J4 rfl (fun b o e => Heap.get?_push_of_some _ (keep' b o e)) rfl (T.keep _ _ _ st2 fun b hb o e => hx b o (nfP b hb) e) J5 T
      (T.keep _ _ _ st2 fun b hb o e => keep5 b o (nfP b hb) e) (fun b hb => fok b (f2 b hb)) (hn'.push _) (fok _ (I2.fpOk hsz (I2.hok.fresh hsz))) hCf ⟨_, _, _, Heap.get?_push_size _ rfl, rfl, rfl, rfl⟩
      (fok _ (I2.fpOk hge (I2.hok.fresh hge))) haf (by rw [hsz']; exact Nat.succ_ne_self _) (Array.getElem?_push_size ..)
  refine ⟨I2.nolimit, ?_⟩
  cases hf : codeAmong gpos ps.toList with
  | none =>
    refine wpAny_genexprCodeX hcode (cd.code hPs ht) (cd.tab hPs) hf fun c' h' tk hx hge hlt hco' _ htab' _ => ?_
    obtain ⟨o1, vs, f1, tf, fl, tg', inF, tx, tt, op, _, _, _, _, _, _, _, _, _, htr, _⟩ := hco'
    exact cont _ h' tk _ hx (Nat.le_trans hge (Nat.le_of_lt hlt)) htab'.2 ⟨_, rfl⟩ htr
  | some cv =>
    refine wpAny_genexprCode_hit hcode (cd.code hPs ht) hf ?_
    exact cont cv s2.heap s2.toks ps (Heap.ExtBut.refl _ _) (Nat.le_refl _) hPs ⟨#[], by simp⟩ ht
end
end Gx
end PySem
/-! ### the frame of the expression, as a context -/
namespace PySem
namespace Gx
open PySem.W PySem.Calls PyProof.Rows L2 GenW
abbrev gcx (X : L2.Cx) (B : Around) (s : Shared) (H : Hp) (env : Env) (fp : List Addr) (pn : List (Addr × Obj)) : L2.Cx :=
  { X with A := B, s_0 := s, H_0 := H, env := env, outer := X.stack, stack := env :: X.stack, ex := fp, fn := fun _ => false, pn := pn, xe := fun _ _ => False }
section
variable {X : L2.Cx} {pins : List (Addr × Obj)} {σ : L2.St} {H : Hp} {s4 s5 : Shared}
/-- s4: ahead of the frame; s5: the generator stands -/
theorem gx_start {B : Around} {scope : Scope} {own : List (Str × Nat)} {fp : List Addr} {pn : List (Addr × Obj)} {code it : Value} (I4 : Inv X pins σ H s4) (I5 : Inv X pins σ H s5) (ok : BlkOk X.N X.env.scope scope own) (hN : X.N.Nodup)
    (hcell : ∀ y ∈ scope.names, y.2 ≠ .cell) (hX : X.calm = true) (hB : B.handled = none) (hBf : B.frames = some (genEnv scope (cloFrom X.env.cells scope.names []) s4.heap.objs.size code builtinsNs X.env :: X.stack))
    (hfp : ∀ b ∈ fp, FpOk X pins H b ∧ b < s4.heap.objs.size) (keep : ∀ b o, s4.heap.get? b = some o → s5.heap.get? b = some o) (os : s5.os = s4.os)
    (hns : s5.heap.Ns s4.heap.objs.size (fun y => if y = ".0" then some it else none)) (hpn : ∀ p ∈ pn, s5.heap.get? p.1 = some p.2 ∧ H p.1 = none ∧ p.1 ≠ s4.heap.objs.size ∧ p.1 ∉ frs X.stack ∧ ∀ v, p.2.data ≠ .cell v) :
    Inv (gcx X B s4 H (genEnv scope (cloFrom X.env.cells scope.names []) s4.heap.objs.size code builtinsNs X.env) fp pn) [] (wipe σ (own.map (·.2))) H s5 := by
  have hfree : ∀ y ∈ scope.names, y.2 = .free → ∃ c, X.env.cells.lookup y.1 = some c := fun y hy e => by
    rcases ok.free y hy e with k | k
    · exact I4.ok.has _ (.inl k)
    · exact I4.ok.has _ (.inr k)
  have cm : ∀ {y c}, (y, c) ∈ cloFrom X.env.cells scope.names [] → X.env.cells.lookup y = some c ∧ c < s4.heap.objs.size := fun {y c} hm => by
    rcases cloFrom_mem hm with hm | ⟨h1, rfl⟩
    · cases hm
    · obtain ⟨c, hc⟩ := hfree _ h1 rfl
      rw [hc]
      obtain ⟨w, z⟩ := I4.cell _ _ hc
      exact ⟨rfl, z.lt⟩
  have mem : ∀ {y c}, (cloFrom X.env.cells scope.names []).lookup y = some c → X.env.cells.lookup y = some c ∧ c < s4.heap.objs.size := fun {y c} e => cm (PySem.mem_of_lookup e)
  have look : ∀ {y}, scope.names.lookup y = some .free → ∃ c, (cloFrom X.env.cells scope.names []).lookup y = some c ∧ X.env.cells.lookup y = some c := fun {y} hl => by
    have hy : (y, NameKind.free) ∈ scope.names := PySem.mem_of_lookup hl
    obtain ⟨c', e'⟩ := mem_lookup (cloFrom_has (cells := X.env.cells) (acc := []) hy)
    exact ⟨c', e', (mem e').1⟩
  have okB : (gcx X B s4 H (genEnv scope (cloFrom X.env.cells scope.names []) s4.heap.objs.size code builtinsNs X.env) fp pn).Ok := by
    refine ⟨I4.ok.mod, ok.kind, I4.ok.glob, rfl, Nat.le_refl _, fun y z c e1 e2 => I4.ok.inj y z c (mem e1).1 (mem e2).1, fun y hy => ?_, (fun y c z e => by cases z), fun _ => hB, hBf, .inr ⟨rfl, rfl⟩,
      fun b hb => ⟨Nat.ne_of_lt (hfp b hb).2, fun y c e z => (hfp b hb).1.2.2.2.2.1 y c (mem e).1 z⟩, I4.bs, Nat.le_trans I4.ok.bsz I4.sz, fun b o e hb => ?_, fun b hb z => ?_, I4.stack, I4.stkFree⟩
    · rcases hy with hy | hy
      · exact absurd rfl (hcell _ (PySem.mem_of_lookup hy))
      · obtain ⟨c, h1, _⟩ := look hy
        exact ⟨c, h1⟩
    · rcases (hfp b hb).1.2.2.2.1 with z | z
      · exact I4.ok.noex b o e z
      · exact absurd (Nat.lt_of_lt_of_le (Heap.lt_size e) (Nat.le_trans I4.ok.bsz z)) (Nat.lt_irrefl _)
    · rcases List.mem_cons.mp (I4.stkSub b z) with z | z
      · exact (hfp b hb).1.2.1 z
      · exact (hfp b hb).1.2.2.1 z
  refine ⟨okB, os, I5.bare, Un.kept keep, ⟨_, hns, fun i y av e1 e2 e3 => ?_⟩, fun y c e => ?_, I4.hok.fresh (Nat.le_refl _), fun y c e => I4.freeC y c (mem e).1, fun p hp => ?_, I5.hok, by rw [wipe_length]; exact I4.len⟩
  · obtain ⟨e2, hne⟩ := wipe_some e2
    have hfr : scope.names.lookup y = some .free := by
      have no : ∀ k, scope.names.lookup y = some k → ¬ (k = .local ∨ k = .cell) := fun k hk hh => by
        rcases ok.own _ (PySem.mem_of_lookup hk) hh with e' | e'
        · obtain ⟨p, hp, hpy⟩ := List.mem_map.mp e'
          have e3 := ok.ix p hp
          have : p.1 = y := hpy
          rw [this] at e3
          exact hne (List.mem_map.mpr ⟨p, hp, nodup_ix hN e3 e1⟩)
        · exact e' (List.mem_of_getElem? e1)
      rcases e3 with e3 | e3 | e3
      · exact absurd (.inl rfl) (no _ e3)
      · exact absurd (.inr rfl) (no _ e3)
      · exact e3
    obtain ⟨m, hn, hl⟩ := I4.loc
    have hvis : Vis X.env.scope y := (ok.free _ (PySem.mem_of_lookup hfr) rfl).elim (fun k => .inr (.inl k)) (fun k => .inr (.inr k))
    obtain ⟨w, r, q⟩ := hl i y av e1 e2 hvis
    refine ⟨w, r, .inr ⟨.inr hfr, ?_⟩⟩
    obtain ⟨c, h1, h2⟩ := look hfr
    rcases q with ⟨k, _⟩ | ⟨_, c', e', z⟩
    · have k : X.env.scope.names.lookup y = some .local := k
      rcases ok.free _ (PySem.mem_of_lookup hfr) rfl with k' | k' <;> rw [show X.env.scope.names.lookup y = _ from k'] at k <;> cases k
    · rw [h2] at e'; cases e'
      exact ⟨c, h1, z.keeps keep⟩
  · obtain ⟨w, z⟩ := I4.cell y c (mem e).1
    exact ⟨w, z.keeps keep⟩
  · have hp : p ∈ pn := by simpa using hp
    exact hpn p hp
/-- the frame's around: the one of the caller, that frame on it -/
theorem gx_frames {A : Around} {elt iter tg : Expr} {ifs : List Expr} {scope : Scope} {pos : Pos} {it : Value} {env : Env} {l : List Env} (hf : env.frame = some env.locals) (h : A.frames = some l) :
    (A.over (.compLoop (.GeneratorExp elt [⟨tg, iter, ifs, 0⟩] scope pos) 0 it .none env) []).frames = some (env :: l) := by
  obtain ⟨hd, d, fr, gs, u⟩ := A
  have h : fr = some l := h
  subst h
  simp [Around.over, envsOf, pushEnvs, Code.envs, Code.env?, Code.isFrame]
end
end Gx
end PySem
/-! ### the rule -/
namespace PySem
namespace Gx
open PySem.W PySem.Calls PyProof.Rows L2 GenW
/-- all(e for t in it if c) (stop = false), any(..) (stop = true): vs: the expression's own names' places, P: the table of the def's code -/
def tGen (stop : Bool) (wi : TI) (g : TG) (tt : TT) (te : TE) (vs : List Nat) (P : Addr) : TE := fun σ H Q => wi σ H fun J H1 => GxR.TabG H1 P ∧ ∀ H2, GxR.Tabbed P H1 H2 → ∃ W : Nat → Nat → Hp → Prop, (∃ m, W 0 m H2) ∧ ∀ i m H, W i m H →
  (J.stop i H ∧ Q (.bl (!stop)) H) ∨ (J.go i H ∧ ∃ Nx : Hp → Prop, (∀ H', Nx H' → ∃ m', m' < m ∧ W (i + 1) m' H') ∧ ∀ x H', J.yld i H x H' → g x (wipe σ vs) H' fun σ2 H2 => wipe σ2 vs = wipe σ vs ∧ tt σ2 H2 fun b H3 =>
    if b = true then te σ2 H3 fun y H4 => ∃ c, y = .bl c ∧ if c = stop then Q (.bl stop) H4 else Nx H4 else Nx H3)
section
variable {X : L2.Cx} {pins : List (Addr × Obj)} {σ : L2.St} {H : Hp} {s : Shared}
theorem inv_sl {Y : L2.Cx} {pins : List (Addr × Obj)} {σ : L2.St} {H : Hp} {s s' : Shared} (I : Inv Y pins σ H s) (h : Sl s s') : Inv Y pins σ H s' :=
  I.call' (ch := []) h.os (Un.kept fun b o e => by rw [h.heap]; exact e) (I.hok.kept fun b o e => by rw [h.heap]; exact e) h.bare fun b hb => absurd hb (by simp)
/-- back in the caller's frame -/
theorem gx_back {B : Around} {s4 s1 s' : Shared} {H2 H' : Hp} {env : Env} {fp : List Addr} {pn ps : List (Addr × Obj)} {σ' : L2.St} (I4 : Inv X pins σ H2 s4) (hfp : ∀ b ∈ fp, FpOk X pins H2 b) (Ig : Inv (gcx X B s4 H2 env fp pn) ps σ' H' s1) (e : Ex s1 s') : Inv X pins σ H' s' :=
  I4.call' (ch := fp) (e.os.trans Ig.os) (Ig.base.trans (Un.kept e.heap)) (Ig.hok.kept e.heap) e.bare fun b hb => ⟨(hfp b hb).2.2.2.1, (hfp b hb).2.1, (hfp b hb).2.2.2.2.1, (hfp b hb).2.2.2.2.2⟩
theorem pe_gen (stop : Bool) {c P : Addr} {elt tg iter : Expr} {ifs : List Expr} {x : Str} {f : String} {p pos gpos : Pos} {scope : Scope} {own : List (Str × Nat)} {wi : TI} {g : TG} {tt : TT} {te : TE} {k : Nat} (hf : f = if stop = true then "any" else "all")
    (hr : Room (k + 3) X.A) (hc : X.calm = true) (hN : X.N.Nodup) (hg : Gl X f) (hm : X.mg f = none) (TB : GxR.TabB X.base X.mg c P) (hcode : X.env.code = .ref c) (S : GxR.GenS X.env scope x) (ok : BlkOk X.N X.env.scope scope own)
    (hi : PI X tg iter wi)
    (ht : ∀ (B : Around) (s : Shared) (H : Hp) (C : Addr) (code : Value) (fp : List Addr) (pn : List (Addr × Obj)), Room k B → PG (gcx X B s H (genEnv scope (cloFrom X.env.cells scope.names []) C code builtinsNs X.env) fp pn) tg g)
    (hts : ∀ (B : Around) (s : Shared) (H : Hp) (C : Addr) (code : Value) (fp : List Addr) (pn : List (Addr × Obj)), Room k B → PTs (gcx X B s H (genEnv scope (cloFrom X.env.cells scope.names []) C code builtinsNs X.env) fp pn) ifs tt)
    (hel : ∀ (B : Around) (s : Shared) (H : Hp) (C : Addr) (code : Value) (fp : List Addr) (pn : List (Addr × Obj)), Room k B → PE (gcx X B s H (genEnv scope (cloFrom X.env.cells scope.names []) C code builtinsNs X.env) fp pn) elt te)
    (hs : ∀ v, genFold iter X.env v = pure v)
    (he : starEach [.GeneratorExp elt [⟨tg, iter, ifs, 0⟩] scope gpos] X.env = (false, eval (.GeneratorExp elt [⟨tg, iter, ifs, 0⟩] scope gpos) X.env) :: starEach [] X.env := by rfl) :
    PE X (.Call (.Name f p) [.GeneratorExp elt [⟨tg, iter, ifs, 0⟩] scope gpos] [] pos) (tGen stop wi g tt te (own.map (·.2)) P) := by
  refine ⟨fun pins s σ H Q I h => ?_⟩
  have hstk := I.ok.frames
  have fin : ∀ (a : Addr) (g : Nat) (m : Nat) (s5 : Shared), Wx X.prog X.w X.A.in1.in1 a g stop (Cx a g stop fun s' => ∃ v H', Inv X pins σ H' s' ∧ RelV v (.bool stop) ∧ Q v H') (Dx fun s' => ∃ v H', Inv X pins σ H' s' ∧ RelV v (.bool !stop) ∧ Q v H') m s5 →
      wpAny (model X.prog X.w) X.A (call (.builtin f) [.ref a]) (fun u s' => ∃ v H', Inv X pins σ H' s' ∧ RelV v u ∧ Q v H') X.xe s5 := by
    intro a g m s5 hW
    subst hf
    cases stop with
    | false => exact call_all_gen (Q := fun u s' => ∃ v H', Inv X pins σ H' s' ∧ RelV v u ∧ Q v H') hr.hd (by have := hr.dp; omega) hW
    | true => exact call_any_gen (Q := fun u s' => ∃ v H', Inv X pins σ H' s' ∧ RelV v u ∧ Q v H') hr.hd (by have := hr.dp; omega) hW
  have hb : bootBuiltins f = some (.builtin f) := by subst hf; cases stop <;> decide +kernel
  refine wpAny_Call_Name_kw (ld_blt I hg hm hb ?_ (by subst hf; cases stop <;> decide) (by subst hf; cases stop <;> decide))
  refine PyProof.Rows.callWith_builtin1 ?_ he (by rfl)
  rw [he]
  show wpAny _ _ (spliced ((false, eval (.GeneratorExp elt [⟨tg, iter, ifs, 0⟩] scope gpos) X.env) :: backTo pos (starEach [] X.env))) _ _ s
  refine Calls.spliced_cons (gen_make hr TB hcode S hi hs I h fun it fp tn J H1 H2 code C a gi s4 s5 q tab I4 hC keep os st4 I5 T st5 f2 hns fC hCf hgen fa haf haC hgs => ?_)
  refine Calls.spliced_nil ?_
  obtain ⟨W, ⟨m0, w0⟩, turn⟩ := q H2 tab
  subst hC
  have lt4 : ∀ b ∈ fp, b < s4.heap.objs.size := fun b hb => by
    obtain ⟨o, ho, _⟩ := T.obj _ _ st4 b hb
    exact Heap.lt_size ho
  obtain ⟨ga, gnm, gqn, gho, gr⟩ := id hgen
  obtain ⟨gcl, gdt, gsl⟩ := gr
  have bh : ∀ {c : Code}, (X.A.in1.in1.over c []).handled = none := fun {c} => hr.hd
  have rb : Room k (X.A.in1.in1.over (.compLoop (.GeneratorExp elt [⟨tg, iter, ifs, 0⟩] scope gpos) 0 (.ref it) .none (genEnv scope (cloFrom X.env.cells scope.names []) s4.heap.objs.size code builtinsNs X.env)) []) := ⟨hr.hd, by
    have := hr.dp
    show X.A.depth + 1 + 3 * k + 5 < recursionLimit
    omega, by
    have := hr.un
    show X.A.units + 5 + 16 * k + 200 < cLine
    omega⟩
  have I6 := gx_start (code := code) (it := .ref it) (own := own) (pn := [(a, ga)]) I4 I5 ok hN S.cell hc (B := X.A.in1.in1.over (.compLoop (.GeneratorExp elt [⟨tg, iter, ifs, 0⟩] scope gpos) 0 (.ref it) .none (genEnv scope (cloFrom X.env.cells scope.names []) s4.heap.objs.size code builtinsNs X.env)) [])
    hr.hd (gx_frames rfl hstk) (fun b hb => ⟨f2 b hb, lt4 b hb⟩) keep os hns (fun p hp => by
      rw [List.mem_singleton.mp hp]
      refine ⟨gho, fa.1, haC, fun z => ?_, fun v z => ?_⟩
      · rcases List.mem_cons.mp (I4.stkSub a z) with z | z
        · exact fa.2.1 z
        · exact fa.2.2.1 z
      · rw [gdt] at z; cases z)
  refine fin a gi (m0 + 1) s5 ⟨hgen, I5.nolimit, I5.bare, _, hgs, rfl, seg_rg (seg_start (fun B Q E hq => T.self B 0 _ Q E st5 hq) (seg_loop rfl S.co
    (fun m s => ∃ i H', Inv (gcx X (X.A.in1.in1.over (.compLoop (.GeneratorExp elt [⟨tg, iter, ifs, 0⟩] scope gpos) 0 (.ref it) .none (genEnv scope (cloFrom X.env.cells scope.names []) s4.heap.objs.size code builtinsNs X.env)) []) s4 H2 (genEnv scope (cloFrom X.env.cells scope.names []) s4.heap.objs.size code builtinsNs X.env) fp [(a, ga)]) [] (wipe σ (own.map (·.2))) H' s ∧
      tn i s.heap ∧ (∀ b ∈ fp, H' b = none) ∧ W i m H') ?_ m0 (m0 + 1) _ _ (Nat.lt_succ_self _) ⟨0, H2, ?_, st5, fun b hb => (f2 b hb).1, w0⟩))⟩
  · generalize hBB : X.A.in1.in1.over (.compLoop (.GeneratorExp elt [⟨tg, iter, ifs, 0⟩] scope gpos) 0 (.ref it) .none (genEnv scope (cloFrom X.env.cells scope.names []) s4.heap.objs.size code builtinsNs X.env)) [] = B at rb ⊢
    have pg := ht B s4 H2 s4.heap.objs.size code fp [(a, ga)] rb
    have pt := hts B s4 H2 s4.heap.objs.size code fp [(a, ga)] rb
    have pe := hel B s4 H2 s4.heap.objs.size code fp [(a, ga)] rb
    have stat : ∀ {σ' : L2.St} {H' : Hp} {s' : Shared}, Inv (gcx X B s4 H2 (genEnv scope (cloFrom X.env.cells scope.names []) s4.heap.objs.size code builtinsNs X.env) fp [(a, ga)]) [] σ' H' s' → (∀ b ∈ fp, H' b = none) → ∀ b ∈ fp, FpOk (gcx X B s4 H2 (genEnv scope (cloFrom X.env.cells scope.names []) s4.heap.objs.size code builtinsNs X.env) fp [(a, ga)]) [] H' b := fun {σ' H' s'} I' hn b hb =>
      ⟨hn b hb, (I'.ok.exf b hb).1, I'.ok.exfs b hb, .inl hb, fun x c e => (I'.ok.exf b hb).2 x c e, fun p hp => by
        have hp : p ∈ [(a, ga)] ++ [] := hp
        rw [List.append_nil, List.mem_singleton] at hp
        rw [hp]
        exact fun z => haf (by rw [show a = b from z]; exact hb)⟩
    rintro m s5' ⟨i, H5, I5', st5', n5, w5⟩
    rcases turn i m H5 w5 with ⟨stop_, qq⟩ | ⟨go, Nx, hNx, step⟩
    · refine thnF (T.done (gcx X B s4 H2 (genEnv scope (cloFrom X.env.cells scope.names []) s4.heap.objs.size code builtinsNs X.env) fp [(a, ga)]) rfl rfl rfl hc i [] s5' _ H5 (fun _ _ => False) I5' (stat I5' n5) st5' stop_) fun r s6 ⟨hr6, I6⟩ => ?_
      subst hr6
      exact ⟨I6.bare, fun s' ex => ⟨.bl (!stop), H5, gx_back I4 f2 I6 ex, rfl, qq⟩⟩
    · refine thnF (T.item (gcx X B s4 H2 (genEnv scope (cloFrom X.env.cells scope.names []) s4.heap.objs.size code builtinsNs X.env) fp [(a, ga)]) rfl rfl rfl hc i [] s5' _ H5 (fun _ _ => False) I5' (stat I5' n5) st5' go) fun r s6 ⟨u, hr6, h6⟩ => ?_
      subst hr6
      refine thnF h6 fun _ s7 ⟨x, H7, I7, r7, y7, st7, n7⟩ => ?_
      have I7' := I7.pinned (stat I7 n7) (T.obj _ _ st7)
      refine thnF (pg.run _ s7 _ H7 x u _ I7' r7 (step x H7 y7)) fun _ s8 ⟨σ8, H8, I8, hw8, q8⟩ => ?_
      refine thnF (pt.run _ s8 σ8 H8 _ I8 q8) fun b s9 ⟨H9, I9, q9⟩ => ?_
      have fin2 : ∀ {s' : Shared} {H' : Hp}, Inv (gcx X B s4 H2 (genEnv scope (cloFrom X.env.cells scope.names []) s4.heap.objs.size code builtinsNs X.env) fp [(a, ga)]) ([] ++ pinsAt fp s7.heap) σ8 H' s' → Nx H' → ∃ m', m' < m ∧ ∃ i H', Inv (gcx X B s4 H2 (genEnv scope (cloFrom X.env.cells scope.names []) s4.heap.objs.size code builtinsNs X.env) fp [(a, ga)]) [] (wipe σ (own.map (·.2))) H' s' ∧ tn i s'.heap ∧ (∀ b ∈ fp, H' b = none) ∧ W i m' H' := fun {s' H'} I' nx => by
        obtain ⟨m', hm, w'⟩ := hNx H' nx
        have pin' : ∀ b ∈ fp, ∀ o, s7.heap.get? b = some o → s'.heap.get? b = some o ∧ H' b = none := fun b hb o e =>
          let z := I'.pin (b, o) (List.mem_append_right _ (List.mem_append_right _ (mem_pinsAt hb e)))
          ⟨z.1, z.2.1⟩
        have hl : (wipe σ (own.map (·.2))).length = σ8.length := by rw [← hw8, wipe_length]
        refine ⟨m', hm, i + 1, H', (I'.unpinned (pins := [])).weak hl (fun j v e => ?_), T.keep _ _ _ st7 fun b hb o e => (pin' b hb o e).1, fun b hb => ?_, w'⟩
        · rw [← hw8] at e
          exact (wipe_some e).1
        · obtain ⟨o, e, _⟩ := T.obj _ _ st7 b hb
          exact (pin' b hb o e).2
      cases b with
      | false =>
        simp only [Bool.false_eq_true, if_false] at q9 ⊢
        exact fin2 I9 q9
      | true =>
        simp only [if_true] at q9 ⊢
        refine thnF (pe.run _ s9 σ8 H9 _ I9 q9) fun z s10 ⟨yv, H10, I10, r10, b10, e10, q10⟩ => ?_
        subst e10
        have r10 : z = .bool b10 := r10
        refine ⟨⟨b10, r10, ⟨ga, gnm, gqn, (I10.pin (a, ga) (by simp)).1, gcl, gdt, gsl⟩, I10.nolimit, I10.bare, fun e s' hs' => ?_⟩, ?_⟩
        · rw [if_pos e] at q10
          exact ⟨.bl stop, H10, gx_back I4 f2 I10 ⟨hs'.os, hs'.bare, fun b o q => by rw [hs'.heap]; exact q⟩, rfl, q10⟩
        · intro gy
          rw [r10] at gy
          have gy : b10 = !stop := by injection gy
          rw [if_neg (by rw [gy]; cases stop <;> decide)] at q10
          obtain ⟨m', hm, i', H', J', rest⟩ := fin2 I10 q10
          exact ⟨m', hm, fun s' hs' => ⟨i', H', inv_sl J' hs', by rw [hs'.heap]; exact rest.1, rest.2⟩⟩
  · exact inv_sl I6 ⟨rfl, allBare_setGen I5.bare rfl, rfl⟩
end
end Gx
end PySem
/-! ### the form one uses: over any walk of the hand layer (walk_list, walk_tup, walk_range, ..) -/
namespace PySem
namespace Gx
open PySem.W PySem.Calls PyProof.Rows L2 GenW
/-- Pv: what is true ahead of each turn; an element's answer ends the walk or leads to the next turn -/
theorem gen_walk {J : It} {n : Nat} {G : Hp → Prop} {Y : Nat → Hp → V → Hp → Prop} {g : TG} {tt : TT} {te : TE} {vs : List Nat} {σ : L2.St} {Hs : Hp} {stop : Bool} {Q : VK} (w : Walk J n G Y) (Pv : Nat → Hp → Prop) (first : Pv 0 Hs) (stands : ∀ i H, Pv i H → G H)
    (turn : ∀ i x H H', i < n → Pv i H → Y i H x H' → g x (wipe σ vs) H' fun σ2 H2 => wipe σ2 vs = wipe σ vs ∧ tt σ2 H2 fun b H3 => if b = true then te σ2 H3 fun y H4 => ∃ c, y = .bl c ∧ if c = stop then Q (.bl stop) H4 else Pv (i + 1) H4 else Pv (i + 1) H3)
    (last : ∀ H, Pv n H → Q (.bl (!stop)) H) : ∃ W : Nat → Nat → Hp → Prop, (∃ m, W 0 m Hs) ∧ ∀ i m H, W i m H →
      (J.stop i H ∧ Q (.bl (!stop)) H) ∨ (J.go i H ∧ ∃ Nx : Hp → Prop, (∀ H', Nx H' → ∃ m', m' < m ∧ W (i + 1) m' H') ∧ ∀ x H', J.yld i H x H' → g x (wipe σ vs) H' fun σ2 H2 => wipe σ2 vs = wipe σ vs ∧ tt σ2 H2 fun b H3 =>
        if b = true then te σ2 H3 fun y H4 => ∃ c, y = .bl c ∧ if c = stop then Q (.bl stop) H4 else Nx H4 else Nx H3) := by
  refine ⟨fun i left H => i + left = n ∧ Pv i H, ⟨n, Nat.zero_add n, first⟩, fun i left H here => ?_⟩
  obtain ⟨count, now⟩ := here
  cases left with
  | zero =>
    obtain rfl : i = n := count
    exact .inl ⟨w.stops H (stands _ H now), last H now⟩
  | succ fewer =>
    have more : i < n := by omega
    exact .inr ⟨w.goes i H more (stands i H now), Pv (i + 1), fun H' then_ => ⟨fewer, Nat.lt_succ_self fewer, by omega, then_⟩, fun x H' given => turn i x H H' more now (w.yields i H x H' more (stands i H now) given)⟩
end Gx
end PySem
namespace PySem
namespace Gx
open PySem PySem.W PySem.Calls PyProof.Rows L2 GenW
/-- the names of a generator expression, checked -/
theorem genS_by {env : Env} {scope : Scope} {x : Str} (h1 : scope.kind = .function) (h2 : scope.isCoroutine = false) (h3 : (scope.names.all fun y => match y.2 with | .cell => false | _ => true) = true) (h4 : scope.names.lookup (".0" : Str) = some NameKind.local)
    (h5 : scope.names.lookup x = some .local) (h6 : (scope.names.all fun y => match y.2 with | .free => (env.cells.lookup y.1).isSome | _ => true) = true) : GxR.GenS env scope x where
  kind := h1
  co := h2
  cell := fun y hy z => by
    have := List.all_eq_true.mp h3 y hy
    rw [z] at this
    cases this
  dot := h4
  loc := h5
  free := fun y hy z => by
    have := List.all_eq_true.mp h6 y hy
    rw [z] at this
    exact Option.isSome_iff_exists.mp this
theorem walk_zipT {K : PySem.W.Frag} {a b : Addr} {xs ys : List V} {n : Nat} (hn : n = min xs.length ys.length) : Walk (RZ.ItzT K a b) n (fun H => SqT K H a xs ∧ SqT K H b ys) (YPair (fun i => xs[i]?) (fun i => ys[i]?)) := by
  subst hn
  refine ⟨fun i _ hi q => ?_, fun _ q => ⟨xs, ys, q.1, q.2, by omega⟩, fun i H v H' _ q y => ?_⟩
  · have h1 : i < xs.length := by omega
    have h2 : i < ys.length := by omega
    exact ⟨xs, ys, xs[i], ys[i], q.1, q.2, by simp [h1], by simp [h2]⟩
  · obtain ⟨T, x, z, h1, h2, h3, h4, h5⟩ := y
    exact ⟨T, x, z, h1, h2, h3, h4 xs q.1, h5 ys q.2⟩
end Gx
end PySem
namespace My
open PySem L2 PySem.Spec PyProof.Rows
theorem yesI {σ : L2.St} {H : Hp} {F : Bool → Hp → Prop} (h : F true H) : tYes σ H F := h
/-- a sum of tuples, wherever it stands -/
theorem catA_of {K : PySem.W.Frag} {H : Hp} {Q : VK} {a b : Addr} {xs ys : List V} (hx : SqT K H a xs) (hy : SqT K H b ys) (hl : xs.length + ys.length ≤ sizeLine) (k : ∀ p H', Same H H' → SqT K H' p (xs ++ ys) → Q (.ref p) H') : rCatA K (.ref a) (.ref b) H Q := by
  refine ⟨a, b, xs, ys, rfl, rfl, hx, hy, hl, fun e => ?_, fun _ e => ?_, fun _ _ p hp => k p _ (same_new hp) tHere⟩
  · subst e; exact k b H (Same.refl _) hy
  · subst e; exact k a H (Same.refl _) (by rw [List.append_nil]; exact hx)
theorem cut_whole {xs : List V} {lo hi : Option Int} (h : HT.sIx xs.length 0 lo = 0 ∧ HT.sIx xs.length xs.length hi = xs.length) : cutV xs lo hi = xs := by
  unfold cutV
  rw [h.1, h.2]
  simp
theorem slA_of {K : PySem.W.Frag} {H : Hp} {Q : VK} {a : Addr} {xs : List V} {lo hi : Option Int} (hx : SqT K H a xs) (k : ∀ p H', Same H H' → SqT K H' p (cutV xs lo hi) → Q (.ref p) H') : rSlA K (.ref a) lo hi H Q :=
  ⟨a, xs, rfl, hx, fun h => k a H (Same.refl _) (by rw [cut_whole h]; exact hx), fun _ p hp => k p _ (same_new hp) tHere⟩
/-- both ways lead on -/
theorem iteR {c : Prop} [Decidable c] {R A B : Prop} (r : R) (hB : ¬ c → R → B) (hA : c → R → A) : if c then A else B := by
  by_cases h : c
  · rw [if_pos h]; exact hA h r
  · rw [if_neg h]; exact hB h r
theorem pe_gS {X : Cx} {x : Str} {z : Str} {pos : Pos} (hm : ∃ t, X.mg x = some (.str z t)) (hg : Gl X x := by rfl) (hd : (x == ("__debug__" : Str)) = false := by decide) (hcd : (x == ("__classdict__" : Str)) = false := by decide) : PE X (.Name x pos) (tC (.str z)) := by
  obtain ⟨t, e⟩ := hm
  exact pe_glob hg e ⟨t, rfl⟩ hd
/-- a def of which the code object is known -/
structure FunT (K : PySem.W.Frag) (x qual : Str) (st : Stmt) (f : Addr) (fd : FuncData) (c : Addr) : Prop where
  ex : ∃ (oc : Value) (od : Option Addr) (kV doc pm : Value) (an : Option Addr) (ct : Value) (osl : Array (Option Value)),
    fd = PySem.W.fnOf x qual (defArgs st) (defBody st) (defScope st) .none kV doc pm an (.ref c) ct ∧ K.lookup f = some ⟨oc, od, .func fd, osl⟩ ∧ PySem.W.codeIn K (.ref c) qual = true
  kp : PySem.W.keepIn K (.ref f) = true
theorem FunT.toFun {K : PySem.W.Frag} {x qual : Str} {st : Stmt} {f : Addr} {fd : FuncData} {c : Addr} (F : FunT K x qual st f fd c) : Fun K x qual st f fd := by
  obtain ⟨⟨oc, od, kV, doc, pm, an, ct, osl, h⟩, kp⟩ := F
  exact ⟨⟨oc, od, kV, doc, pm, an, _, ct, osl, h⟩, kp⟩
theorem funT_mk {K : PySem.W.Frag} {x qual : Str} {st : Stmt} {f c : Addr} {oc : Value} {od an : Option Addr} {osl : Array (Option Value)} {kV doc pm cdv ct : Value} (l : K.lookup f = some ⟨oc, od, .func (PySem.W.fnOf x qual (defArgs st) (defBody st) (defScope st) .none kV doc pm an cdv ct), osl⟩)
    (h : PySem.W.codeIn K cdv qual = true) (k : PySem.W.keepIn K (.ref f) = true) (e : cdv = .ref c) : FunT K x qual st f (PySem.W.fnOf x qual (defArgs st) (defBody st) (defScope st) .none kV doc pm an cdv ct) c := by
  subst e
  exact ⟨⟨oc, od, kV, doc, pm, an, ct, osl, rfl, l, h⟩, k⟩
section
variable {P : Program} {w : World} {K : PySem.W.Frag} {mg : Str → Option Value} {base : Heap}
theorem FunT.ok {x qual : Str} {st : Stmt} {f c : Addr} {fd : FuncData} {N ps : List Str} {k : Nat} {sp : Sp} (F : FunT K x qual st f fd c) (S : FnScope N ps (defScope st)) (len : ∀ vs H Q E, sp vs H Q E → vs.length = ps.length)
    (hbody : ∀ (A : Around) (outer : List Env) (s : Shared) (H : Hp) (vs : List V) (Q : VK) (E : XK), Room k (A.deeper (envOfC qual (defScope st) s.heap.objs.size f (.ref c))) → sp vs H Q E →
      ∃ t, PSs (cxOf CX0 P w K mg base N qual (defScope st) f (.ref c) A outer s H E).nox (defBody st) t ∧ t { nx := fun _ H' => Q .non H', rt := Q } (start N vs) H) : FnOk P w K mg base CX0 (k + 1) f fd ps sp := by
  obtain ⟨oc, od, kV, doc, pm, an, ct, osl, rfl, lk, hcd⟩ := F.ex
  refine fn_of lk hcd S len fun A outer s H vs Q E hr hsp => ?_
  obtain ⟨t, h, q⟩ := hbody A outer s H vs Q E hr hsp
  exact ⟨t, h.nox, q⟩
end
/-- a def's code object and its table, from what stands in the part that is written out -/
theorem tabIn_of {K : PySem.W.Frag} {x : Str} {f c P : Addr} {oc t1 cdv : Value} {od t2 : Option Addr} {fd : FuncData} {osl t3 : Array (Option Value)} {vs : Array Value} (a : PySem.W.nsIn K mainGlobals x = some (some (.ref f))) (l : K.lookup f = some ⟨oc, od, .func fd, osl⟩) (hc : fd.code = cdv) (e : cdv = .ref c)
    (o : K.lookup c = some ⟨t1, t2, .fields vs, t3⟩) (v : (vs[11]? : Option Value) = some (.ref P)) : PySem.W.tabIn K x = some (c, P) := by
  unfold PySem.W.tabIn
  rw [a]
  show (match K.lookup f with | some ⟨_, _, .func fd, _⟩ => _ | _ => none) = _
  rw [l]
  show (match fd.code with | .ref c => _ | _ => none) = _
  rw [hc, e]
  show (match K.lookup c with | some ⟨_, _, .fields vs, _⟩ => _ | _ => none) = _
  rw [o]
  show (match (vs[11]? : Option Value) with | some (.ref P) => _ | _ => none) = _
  rw [v]
/-- a law with tables: what its promise asks -/
def spLawT (K : PySem.W.Frag) (ts : List Addr) : Sp := fun vs H Q _ => ∃ (a : Addr) (ns : List Int), vs = [.ref a] ∧ SqL K H a (ns.map V.int) ∧ ns.length ≤ 63 ∧ Tbs ts H ∧ ∀ H', Q (.bl true) H'
/-- what is known of the tables at the head -/
def TabsOf (q : Program) (K : PySem.W.Frag) (h : Heap) : Prop := ∀ (x : Str) (c P : Addr), ((recsOf q).any fun e => e.name == x) = true → PySem.W.tabIn K x = some (c, P) → PySem.W.CodeHd h c P ∧ h.get? P = some (PySem.W.tabObj #[])
theorem walkT {l : PySem.W.OpenLaw} {q : Program} {loose : List Str} {XP : (Str → Option Value) → Heap → Prop} {YP : World → Heap → Prop} {d : DefRec} {K : Params → PySem.W.Frag} {k : Nat} (hr : Room k callerA) (hn : l.most = some 63) (hdf : d.params.defaults = [])
    (hY : ∀ (w : World) (h : Heap), YP w h → (K w.params).In h)
    (F : ∀ (w : World) (mg : Str → Option Value) (fa : Addr) (h : Heap), TabsOf q (K w.params) h → (K w.params).In h → h.Ns mainGlobals mg → mg d.name = some (.ref fa) → LamX.LawAtS l w (K w.params) CX0 k 63 "script" mg fa h) :
    PySem.W.WalkO q loose XP YP l.row.toRowW d [] (fun f vs => PySem.call f vs) := by
  refine Att.attach_callB hn hdf fun w s₀ s₁ mg mb fa o pm cd doc a vs ns G Y ho hd hcd hmg hobj hints hlen hbits hg => ?_
  have KX := hY w _ Y
  obtain ⟨fd, cs, sp, hT, nT, C, hb, hsp, hF⟩ := F w mg fa _ (fun x c P hr ht => by
    obtain ⟨e, he⟩ := List.find?_isSome.mpr (List.any_eq_true.mp hr) |> Option.isSome_iff_exists.mp
    exact PySem.W.tab_of G.T KX he ht) KX G.T.g hmg
  exact LamX.law_callTs (CX := CX0) (k := k) (x := "script") KX G.T.g G.T.b G.T.builtins G.T.nolimit hg hT nT C G.T.bmain hobj hints (Nat.le_trans hlen (by decide)) hr hF hb (fun H hH hS => hsp H a ns hlen hbits hH hS) fun _ _ _ z => z
theorem tbs_nil {cs : List (Addr × Addr)} {ts : List Addr} {H : Hp} (e : cs.map (·.2) = ts) (h : ∀ p ∈ cs, H p.2 = some (.tbl #[])) : Tbs ts H := fun P hP => by
  subst e
  obtain ⟨p, hp, rfl⟩ := List.mem_map.mp hP
  exact ⟨#[], h p hp, True.intro⟩
end My
namespace My
open PySem L2
/-! ## looks, rules, styles as values -/
def betB (lo hi : Int) : V → Bool
  | .int i => decide (lo ≤ i) && decide (i ≤ hi)
  | _ => false
def LET : List Nat := (Str.ofString "abcdefghijklmnopqrstuvwxyz").cps.toList
def DIG : List Nat := (Str.ofString "0123456789").cps.toList
def headB : List Nat → Bool
  | c :: _ => decide (c ∈ LET)
  | [] => false
def nameB (s : Str) : Bool := (decide ((1 : Int) ≤ s.length) && decide ((s.length : Int) ≤ 12)) && (headB s.cps.toList && s.cps.toList.all fun c => decide (c ∈ LET) || decide (c ∈ DIG))
def nameV : V → Bool
  | .str s => nameB s
  | _ => false
def lookB : List V → Bool
  | [u, v] => betB 1 63 v && decide (u = .str "fill")
  | [u, v, x] => betB 1 63 v && ((decide (u = .str "stroke") || decide (u = .str "dot")) && betB 1 16 x)
  | _ => false
theorem lookB_ns {u v : V} {r : List V} (h : ∀ s, u ≠ .str s) : lookB (u :: v :: r) = false := by
  match r with
  | [] => show (betB 1 63 v && decide _) = false; rw [decide_eq_false (h _), Bool.and_false]
  | [x] => show (betB 1 63 v && ((decide _ || decide _) && betB 1 16 x)) = false; rw [decide_eq_false (h _), decide_eq_false (h _)]; simp
  | _ :: _ :: _ => rfl
theorem lookB_c {u v : V} {r : List V} (h : betB 1 63 v = false) : lookB (u :: v :: r) = false := by
  match r with
  | [] => show (betB 1 63 v && decide _) = false; rw [h, Bool.false_and]
  | [x] => show (betB 1 63 v && _) = false; rw [h, Bool.false_and]
  | _ :: _ :: _ => rfl
/-- the words that stand ahead -/
def lookU (xs : List V) : Prop := ∀ s r, xs = .str s :: r → s = "fill" ∨ s = "stroke" ∨ s = "dot" ∨ s = "paint"
def leV : V → V → Bool
  | .int i, .int j => decide (i ≤ j)
  | _, _ => false
def ruleB (k l m o : V) (c : Bool) : Bool := (nameV k || decide (k = .str "")) && (betB 0 6 l && (betB 0 6 m && (leV l m && (betB (-8) 8 o && c))))
section
variable {K : PySem.W.Frag} {H H' : Hp} {a p s D : Addr} {x v : V} {b c : Bool} {xs : List V} {o : HO}
/-- x is a value of which is_look is b -/
def LV (K : PySem.W.Frag) (H : Hp) (x : V) (b : Bool) : Prop := ∃ n, Ty K H x n ∧ (n = "tuple" → ∃ a xs, x = .ref a ∧ SqT K H a xs ∧ (∀ v ∈ xs, ∃ m, Ty K H v m) ∧ lookU xs ∧ b = lookB xs) ∧ (n ≠ "tuple" → b = false)
def RV (K : PySem.W.Frag) (H : Hp) (x : V) (b : Bool) : Prop := ∃ n, Ty K H x n ∧ (n = "tuple" → ∃ a xs, x = .ref a ∧ SqT K H a xs ∧ ((xs.length ≠ 5 ∧ b = false) ∨
  ∃ k l m o u c, xs = [k, l, m, o, u] ∧ (k = .non ∨ ∃ s : Str, k = .str s ∧ s.length ≤ 100) ∧ (∃ n, Ty K H l n) ∧ (∃ n, Ty K H m n) ∧ (∃ n, Ty K H o n) ∧ LV K H u c ∧ b = ruleB k l m o c)) ∧ (n ≠ "tuple" → b = false)
def StV (K : PySem.W.Frag) (H : Hp) (x : V) (b : Bool) : Prop := ∃ n, Ty K H x n ∧ (n = "tuple" → ∃ (a : Addr) (xs : List V) (bs : List Bool), x = .ref a ∧ SqT K H a xs ∧ xs.length ≤ 1000 ∧ bs.length = xs.length ∧
  (∀ (i : Nat) v c, xs[i]? = some v → bs[i]? = some c → RV K H v c) ∧ b = (decide ((xs.length : Int) ≤ 12) && bs.all id)) ∧ (n ≠ "tuple" → b = false)
theorem LV.same (e : Same H H') (h : LV K H x b) : LV K H' x b := by
  obtain ⟨n, t, h1, h2⟩ := h
  refine ⟨n, t.same e, fun q => ?_, h2⟩
  obtain ⟨a, xs, e1, e2, e3, e4⟩ := h1 q
  exact ⟨a, xs, e1, tSame e e2, fun v hv => (e3 v hv).imp fun _ h => h.same e, e4⟩
theorem RV.same (e : Same H H') (h : RV K H x b) : RV K H' x b := by
  obtain ⟨n, t, h1, h2⟩ := h
  refine ⟨n, t.same e, fun q => ?_, h2⟩
  obtain ⟨a, xs, e1, e2, e3⟩ := h1 q
  refine ⟨a, xs, e1, tSame e e2, e3.imp (fun z => z) ?_⟩
  rintro ⟨k, l, m, o, u, c, f1, f2, f3, f4, f5, f6, f7⟩
  exact ⟨k, l, m, o, u, c, f1, f2, f3.imp fun _ h => h.same e, f4.imp fun _ h => h.same e, f5.imp fun _ h => h.same e, f6.same e, f7⟩
/-- a good look -/
inductive Look : List V → Prop where
  | fill (c : Int) (h1 : 1 ≤ c) (h2 : c ≤ 63) : Look [.str "fill", .int c]
  | line (s : Str) (c w : Int) (hs : s = "stroke" ∨ s = "dot") (h1 : 1 ≤ c) (h2 : c ≤ 63) (h3 : 1 ≤ w) (h4 : w ≤ 16) : Look [.str s, .int c, .int w]
theorem two_ty {u v : V} {m n : String} (h1 : Ty K H u m) (h2 : Ty K H v n) : ∀ x ∈ [u, v], ∃ m, Ty K H x m := by
  intro x hx
  simp only [List.mem_cons, List.not_mem_nil, or_false] at hx
  rcases hx with rfl | rfl
  · exact ⟨_, h1⟩
  · exact ⟨_, h2⟩
theorem three_ty {u v z : V} {m n k : String} (h1 : Ty K H u m) (h2 : Ty K H v n) (h3 : Ty K H z k) : ∀ x ∈ [u, v, z], ∃ m, Ty K H x m := by
  intro x hx
  simp only [List.mem_cons, List.not_mem_nil, or_false] at hx
  rcases hx with rfl | rfl | rfl
  · exact ⟨_, h1⟩
  · exact ⟨_, h2⟩
  · exact ⟨_, h3⟩
theorem Look.ty (h : Look xs) : ∀ x ∈ xs, ∃ m, Ty K H x m := by
  cases h with
  | fill c _ _ => exact two_ty (.str _) (.int _)
  | line s c w _ _ _ _ _ => exact three_ty (.str _) (.int _) (.int _)
theorem Look.u (h : Look xs) : lookU xs := by
  intro s r e
  cases h with
  | fill c _ _ => injection e with e _; injection e with e; exact .inl e.symm
  | line z c w hs _ _ _ _ =>
    injection e with e _
    injection e with e
    subst e
    rcases hs with rfl | rfl
    · exact .inr (.inl rfl)
    · exact .inr (.inr (.inl rfl))
theorem betB_ok {lo hi i : Int} (h1 : lo ≤ i) (h2 : i ≤ hi) : betB lo hi (.int i) = true := by simp [betB, h1, h2]
theorem betB_no {lo hi i : Int} (h : i < lo ∨ hi < i) : betB lo hi (.int i) = false := by
  simp only [betB, Bool.and_eq_false_iff, decide_eq_false_iff_not]
  omega
theorem Look.ok (h : Look xs) : lookB xs = true := by
  cases h with
  | fill c h1 h2 => show (betB 1 63 (.int c) && decide _) = true; rw [betB_ok h1 h2]; rfl
  | line s c w hs h1 h2 h3 h4 =>
    show (betB 1 63 (.int c) && ((decide _ || decide _) && betB 1 16 (.int w))) = true
    rw [betB_ok h1 h2, betB_ok h3 h4]
    rcases hs with rfl | rfl <;> decide
theorem LV.of (h : SqT K H a xs) (hm : ∀ v ∈ xs, ∃ m, Ty K H v m) (hu : lookU xs) (e : lookB xs = b) : LV K H (.ref a) b := ⟨_, .tup h, fun _ => ⟨_, _, rfl, h, hm, hu, e.symm⟩, fun z => absurd rfl z⟩
theorem LV.good (h : SqT K H a xs) (g : Look xs) : LV K H (.ref a) true := .of h g.ty g.u g.ok
theorem LV.no {n : String} (h : Ty K H x n) (hn : n ≠ "tuple") : LV K H x false := ⟨n, h, fun q => absurd q hn, fun _ => rfl⟩
/-- a good rule -/
structure RuleAt (K : PySem.W.Frag) (H : Hp) (r : Addr) (k : Str) (l m o : Int) (u : Addr) (xs : List V) : Prop where
  r : SqT K H r [.str k, .int l, .int m, .int o, .ref u]
  u : SqT K H u xs
  look : Look xs
  k : k = "" ∨ k = "farm" ∨ k = "way" ∨ k = "pond"
  l0 : 0 ≤ l
  lm : l ≤ m
  m6 : m ≤ 6
  o1 : -8 ≤ o
  o2 : o ≤ 8
def RuleE (K : PySem.W.Frag) (H : Hp) (r : Addr) : Prop := ∃ k l m o u xs, RuleAt K H r k l m o u xs
theorem RuleE.same (e : Same H H') (h : RuleE K H a) : RuleE K H' a := by
  obtain ⟨k, l, m, o, u, xs, h⟩ := h
  exact ⟨k, l, m, o, u, xs, { h with r := tSame e h.r, u := tSame e h.u }⟩
theorem RuleE.but {b : Addr} (e : But s H H') (S : Strm H s b) (h : RuleE K H a) : RuleE K H' a := by
  obtain ⟨k, l, m, o, u, xs, h⟩ := h
  exact ⟨k, l, m, o, u, xs, { h with r := tButS e S h.r, u := tButS e S h.u }⟩
theorem RuleE.put (n : ∃ ys, H D = some (.lst ys)) (h : RuleE K H a) : RuleE K (upd H D o) a := by
  obtain ⟨k, l, m, o', u, xs, h⟩ := h
  exact ⟨k, l, m, o', u, xs, { h with r := tAt n h.r, u := tAt n h.u }⟩
theorem kind_ok {k : Str} (h : k = "" ∨ k = "farm" ∨ k = "way" ∨ k = "pond") : (nameV (.str k) || decide (V.str k = .str "")) = true ∧ k.length ≤ 100 := by
  rcases h with rfl | rfl | rfl | rfl <;> exact ⟨by decide +kernel, by decide +kernel⟩
theorem RuleE.rv (h : RuleE K H a) : RV K H (.ref a) true := by
  obtain ⟨k, l, m, o, u, xs, h⟩ := h
  refine ⟨_, .tup h.r, fun _ => ⟨_, _, rfl, h.r, .inr ⟨_, _, _, _, _, true, rfl, .inr ⟨_, rfl, (kind_ok h.k).2⟩, ⟨_, .int _⟩, ⟨_, .int _⟩, ⟨_, .int _⟩, .good h.u h.look, ?_⟩⟩, fun z => absurd rfl z⟩
  have := h.lm; have := h.l0; have := h.m6
  unfold ruleB
  rw [(kind_ok h.k).1, betB_ok h.l0 (show l ≤ 6 by omega), betB_ok (show 0 ≤ m by omega) h.m6, betB_ok h.o1 h.o2]
  simp [leV, h.lm]
theorem all_get {bs : List Bool} : bs.all id = true ↔ ∀ (i : Nat) c, bs[i]? = some c → c = true := by
  constructor
  · intro h i c e
    exact List.all_eq_true.mp h c (List.mem_of_getElem? e)
  · intro h
    rw [List.all_eq_true]
    intro c hc
    obtain ⟨i, e⟩ := List.getElem?_of_mem hc
    exact h i c e
/-- a tuple of good rules -/
theorem StV.good {rs : List Addr} (h : SqT K H a (rs.map V.ref)) (hr : ∀ r ∈ rs, RuleE K H r) (hl : rs.length ≤ 12) : StV K H (.ref a) true := by
  refine ⟨_, .tup h, fun _ => ⟨_, _, List.replicate rs.length true, rfl, h, by simp; omega, by simp, fun i v c e1 e2 => ?_, ?_⟩, fun z => absurd rfl z⟩
  · rw [List.getElem?_map] at e1
    obtain ⟨r, e3, rfl⟩ := Option.map_eq_some_iff.mp e1
    have : c = true := by
      have := List.mem_of_getElem? e2
      exact List.eq_of_mem_replicate this
    subst this
    exact (hr r (List.mem_of_getElem? e3)).rv
  · have e1 : decide (((rs.map V.ref).length : Int) ≤ 12) = true := decide_eq_true (by simp; omega)
    rw [e1, Bool.true_and]
    exact (List.all_eq_true.mpr fun x hx => List.eq_of_mem_replicate hx).symm
/-- too many -/
theorem StV.many {rs : List Addr} (h : SqT K H a (rs.map V.ref)) (hr : ∀ r ∈ rs, RuleE K H r) (hl : 12 < rs.length) (h2 : rs.length ≤ 1000) : StV K H (.ref a) false := by
  refine ⟨_, .tup h, fun _ => ⟨_, _, List.replicate rs.length true, rfl, h, by simpa using h2, by simp, fun i v c e1 e2 => ?_, ?_⟩, fun z => absurd rfl z⟩
  · rw [List.getElem?_map] at e1
    obtain ⟨r, e3, rfl⟩ := Option.map_eq_some_iff.mp e1
    have : c = true := List.eq_of_mem_replicate (List.mem_of_getElem? e2)
    subst this
    exact (hr r (List.mem_of_getElem? e3)).rv
  · have e1 : decide (((rs.map V.ref).length : Int) ≤ 12) = false := decide_eq_false (by simp; omega)
    rw [e1, Bool.false_and]
/-- one wrong rule -/
theorem StV.bad {us ws : List Addr} {v : V} (h : SqT K H a (us.map V.ref ++ v :: ws.map V.ref)) (hu : ∀ r ∈ us, RuleE K H r) (hv : RV K H v false) (hw : ∀ r ∈ ws, RuleE K H r) (h2 : us.length + ws.length ≤ 900) : StV K H (.ref a) false := by
  refine ⟨_, .tup h, fun _ => ⟨_, _, List.replicate us.length true ++ false :: List.replicate ws.length true, rfl, h, by simp; omega, by simp, fun i v' c e1 e2 => ?_, ?_⟩, fun z => absurd rfl z⟩
  · by_cases q : i < us.length
    · rw [List.getElem?_append_left (by simpa using q), List.getElem?_map] at e1
      rw [List.getElem?_append_left (by simpa using q)] at e2
      obtain ⟨r, e3, rfl⟩ := Option.map_eq_some_iff.mp e1
      have : c = true := List.eq_of_mem_replicate (List.mem_of_getElem? e2)
      subst this
      exact (hu r (List.mem_of_getElem? e3)).rv
    · rw [List.getElem?_append_right (by simp; omega)] at e1 e2
      simp only [List.length_map, List.length_replicate] at e1 e2
      generalize i - us.length = j at e1 e2
      cases j with
      | zero =>
        simp only [List.getElem?_cons_zero, Option.some.injEq] at e1 e2
        subst e1; subst e2
        exact hv
      | succ j =>
        simp only [List.getElem?_cons_succ] at e1 e2
        rw [List.getElem?_map] at e1
        obtain ⟨r, e3, rfl⟩ := Option.map_eq_some_iff.mp e1
        have : c = true := List.eq_of_mem_replicate (List.mem_of_getElem? e2)
        subst this
        exact (hw r (List.mem_of_getElem? e3)).rv
  · have e1 : (List.replicate us.length true ++ false :: List.replicate ws.length true).all id = false := by simp
    rw [e1, Bool.and_false]
theorem RV.bad {k l m o u : V} (h : SqT K H a [k, l, m, o, u]) (hk : k = .non ∨ ∃ s : Str, k = .str s ∧ s.length ≤ 100) (hl : ∃ n, Ty K H l n) (hm : ∃ n, Ty K H m n) (ho : ∃ n, Ty K H o n) (hu : LV K H u c) (e : ruleB k l m o c = false) : RV K H (.ref a) false :=
  ⟨_, .tup h, fun _ => ⟨_, _, rfl, h, .inr ⟨_, _, _, _, _, c, rfl, hk, hl, hm, ho, hu, e.symm⟩⟩, fun z => absurd rfl z⟩
theorem RV.no {n : String} (h : Ty K H x n) (hn : n ≠ "tuple") : RV K H x false := ⟨n, h, fun q => absurd q hn, fun _ => rfl⟩
theorem StV.no {n : String} (h : Ty K H x n) (hn : n ≠ "tuple") : StV K H x false := ⟨n, h, fun q => absurd q hn, fun _ => rfl⟩
theorem StV.same (e : Same H H') (h : StV K H x b) : StV K H' x b := by
  obtain ⟨n, t, h1, h2⟩ := h
  refine ⟨n, t.same e, fun q => ?_, h2⟩
  obtain ⟨a, xs, bs, e1, e2, e3, e4, e5, e6⟩ := h1 q
  exact ⟨a, xs, bs, e1, tSame e e2, e3, e4, fun i v c f1 f2 => (e5 i v c f1 f2).same e, e6⟩
/-! ## values that stay what they are while a stream is drawn -/
/-- scalars -/
def scB : V → Bool
  | .ref _ => false
  | _ => true
theorem sc_ty (h : xs.all (fun v => match v with | .int _ => true | .str _ => true | .bl _ => true | .non => true | _ => false) = true) : ∀ v ∈ xs, ∃ m, Ty K H v m := by
  intro v hv
  have := List.all_eq_true.mp h v hv
  cases v with
  | int i => exact ⟨_, .int i⟩
  | str z => exact ⟨_, .str z⟩
  | bl b => exact ⟨_, .bl b⟩
  | non => exact ⟨_, .non⟩
  | _ => cases this
def PB (R : Hp → V → Prop) (s : Addr) (H : Hp) (v : V) : Prop := ∀ H', But s H H' → R H' v
theorem PB.but {R : Hp → V → Prop} (h : PB R s H v) (e : But s H H') : PB R s H' v := fun H2 e2 => h H2 (e.trans e2)
theorem PB.here {R : Hp → V → Prop} (h : PB R s H v) : R H v := h H But.refl
structure BL (R : Hp → V → Prop) (H0 H : Hp) (s b : Addr) (vs : List V) : Prop where
  S : Strm H s b
  e : But s H0 H
  F : ∀ x ∈ vs, PB R s H x
theorem BL.nil {R : Hp → V → Prop} (S : Strm H s p) : BL R H H s p [] := ⟨S, But.refl, fun _ h => by cases h⟩
theorem BL.go {R : Hp → V → Prop} {H0 : Hp} {vs : List V} (h : BL R H0 H s p vs) (e : But s H H') (S : Strm H' s p) : BL R H0 H' s p vs := ⟨S, h.e.trans e, fun x hx => (h.F x hx).but e⟩
theorem BL.step {R : Hp → V → Prop} {H0 : Hp} {vs : List V} (h : BL R H0 H s p vs) (e : Same H H') (n : PB R s H' v) : BL R H0 H' s p (vs ++ [v]) := ⟨h.S.same e, h.e.then_same e, fun x hx => by
  rcases List.mem_append.mp hx with hx | hx
  · exact (h.F x hx).but (But.of_same e)
  · rw [List.mem_singleton] at hx
    subst hx
    exact n⟩
theorem BL.here {R : Hp → V → Prop} {H0 : Hp} {vs : List V} (h : BL R H0 H s p vs) (n : PB R s H v) : BL R H0 H s p (vs ++ [v]) := h.step (Same.refl _) n
theorem BL.over {R : Hp → V → Prop} {H0 : Hp} {vs : List V} {q : Addr} (h : BL R H0 H s p vs) (z : H q = none) : BL R H0 (upd H q o) s p vs := h.go (But.new z) (h.S.over z)
def LVf (K : PySem.W.Frag) (H : Hp) (v : V) : Prop := LV K H v false
def RVf (K : PySem.W.Frag) (H : Hp) (v : V) : Prop := RV K H v false
theorem lookU_of {z : Str} {r : List V} (h : z = "fill" ∨ z = "stroke" ∨ z = "dot" ∨ z = "paint") : lookU (.str z :: r) := fun s r e => by injection e with e _; injection e with e; subst e; exact h
theorem pbLook (S : Strm H s p) (h : SqT K H a xs) (hs : xs.all (fun v => match v with | .int _ => true | .str _ => true | .bl _ => true | .non => true | _ => false) = true) (hu : lookU xs) (e : lookB xs = false) : PB (LVf K) s H (.ref a) :=
  fun H' q => LV.of (tButS q S h) (sc_ty hs) hu e
theorem pbList {q : Addr} (h : H q = some (.lst xs)) (n : q ≠ s) : PB (LVf K) s H (.ref q) := fun H' e => LV.no (.lst (SqL.of (e.get n h))) (by decide)
theorem pbListR {q : Addr} (h : H q = some (.lst xs)) (n : q ≠ s) : PB (RVf K) s H (.ref q) := fun H' e => RV.no (.lst (SqL.of (e.get n h))) (by decide)
theorem lookB_paint {v : V} {r : List V} : lookB (.str "paint" :: v :: r) = false := by
  match r with
  | [] => show (betB 1 63 v && decide (V.str "paint" = .str "fill")) = false; rw [show decide (V.str "paint" = .str "fill") = false by decide +kernel, Bool.and_false]
  | [x] => show (betB 1 63 v && ((decide (V.str "paint" = .str "stroke") || decide (V.str "paint" = .str "dot")) && _)) = false; rw [show (decide (V.str "paint" = .str "stroke") || decide (V.str "paint" = .str "dot")) = false by decide +kernel, Bool.false_and, Bool.and_false]
  | _ :: _ :: _ => rfl
theorem lookB_w {u v x : V} (h : betB 1 16 x = false) : lookB [u, v, x] = false := by
  show (betB 1 63 v && ((decide _ || decide _) && betB 1 16 x)) = false
  rw [h, Bool.and_false, Bool.and_false]
theorem lookB_f {v x : V} : lookB [.str "fill", v, x] = false := by
  show (betB 1 63 v && ((decide (V.str "fill" = .str "stroke") || decide (V.str "fill" = .str "dot")) && betB 1 16 x)) = false
  rw [show (decide (V.str "fill" = .str "stroke") || decide (V.str "fill" = .str "dot")) = false by decide +kernel, Bool.false_and, Bool.and_false]
theorem lookB_s {v : V} : lookB [.str "stroke", v] = false := by
  show (betB 1 63 v && decide (V.str "stroke" = .str "fill")) = false
  rw [show decide (V.str "stroke" = .str "fill") = false by decide +kernel, Bool.and_false]
theorem ruleB_f {k l m o : V} {c : Bool} (h : (nameV k || decide (k = .str "")) = false ∨ betB 0 6 l = false ∨ betB 0 6 m = false ∨ leV l m = false ∨ betB (-8) 8 o = false ∨ c = false) : ruleB k l m o c = false := by
  unfold ruleB
  rcases h with h | h | h | h | h | h <;> rw [h] <;> simp
theorem pbRule {k l m o u : V} (S : Strm H s p) (h : SqT K H a [k, l, m, o, u]) (hk : k = .non ∨ ∃ s : Str, k = .str s ∧ s.length ≤ 100) (hl : ∀ H, ∃ n, Ty K H l n) (hm : ∀ H, ∃ n, Ty K H m n) (ho : ∀ H, ∃ n, Ty K H o n) (hu : PB (fun H v => LV K H v c) s H u) (e : (nameV k || decide (k = .str "")) = false ∨ betB 0 6 l = false ∨ betB 0 6 m = false ∨ leV l m = false ∨ betB (-8) 8 o = false ∨ c = false) : PB (RVf K) s H (.ref a) :=
  fun H' q => RV.bad (tButS q S h) hk (hl _) (hm _) (ho _) (hu H' q) (ruleB_f e)
theorem pbGood (S : Strm H s p) (h : SqT K H a xs) (g : Look xs) : PB (fun H v => LV K H v true) s H (.ref a) := fun H' q => LV.good (tButS q S h) g
theorem RV.four (h : SqT K H a xs) (e : xs.length ≠ 5) : RV K H (.ref a) false := ⟨_, .tup h, fun _ => ⟨_, _, rfl, h, .inl ⟨e, rfl⟩⟩, fun z => absurd rfl z⟩
theorem cut_take {n : Nat} : cutV xs none (some (n : Int)) = xs.take n := by
  unfold cutV
  rw [show HT.sIx xs.length 0 none = 0 from rfl, HT.sIx_nat, List.drop_zero, Nat.sub_zero]
  rcases Nat.le_total n xs.length with q | q
  · rw [Nat.min_eq_left q]
  · rw [Nat.min_eq_right q, List.take_of_length_le q, List.take_of_length_le (Nat.le_refl _)]
theorem cut_drop {n : Nat} : cutV xs (some (n : Int)) none = xs.drop n := by
  unfold cutV
  rw [show HT.sIx xs.length xs.length none = xs.length from rfl, HT.sIx_nat]
  rcases Nat.le_total n xs.length with q | q
  · rw [Nat.min_eq_left q, List.take_of_length_le (by rw [List.length_drop]; exact Nat.le_refl _)]
  · rw [Nat.min_eq_right q, List.drop_of_length_le q, List.drop_of_length_le (Nat.le_refl _), List.take_nil]
theorem noPart {σ : L2.St} {k : Option Int → Hp → Prop} (h : k none H) : tNoPart σ H k := h
end
end My
namespace PySem
namespace Ord2
open PySem.W PySem.Calls PyProof.Rows
section
variable {prog : Program} {w : World} {A : Around} {E : Value → Shared → Prop} {s : Shared}
/-- the heap that stood, behind the tuple of the two -/
theorem kept2 {s : Shared} {o : Obj} : ∀ b u, s.heap.get? b = some u → (s.heap.push o).get? b = some u := fun _ _ e => Heap.get?_push_of_some _ e
/-- min(a, b) of two alike data: the first one, unless the second one is less -/
theorem min_two_data {a b : Value} {x y : PyData} {as bs : List Addr} {Q : Value → Shared → Prop} (hA : A.handled = none) (ra : Reads s.heap a x as) (rb : Reads s.heap b y bs) (al : AlikeAll [x, y]) (hu : A.units + 1 + PyData.depthAll [x, y] < cLine)
    (h : ∀ h' tk, (∀ c o, s.heap.get? c = some o → h'.get? c = some o) → Q (if dataLt y x = true then b else a) { s with heap := h', toks := tk }) : wpAny (model prog w) A (call (.builtin "min") [a, b]) Q E s := by
  have nm : (toString "min" ++ toString ".loop" : String) = "min.loop" := by decide
  have hT : (s.heap.push { cls := .type "tuple", data := .seq #[a, b] }).IsTuple s.heap.objs.size #[a, b] := ⟨_, Heap.get?_push_size _ rfl, rfl, 0, rfl⟩
  have rd : ReadsAll (s.heap.push { cls := .type "tuple", data := .seq #[a, b] }) (#[a, b] : Array Value).toList [x, y] (as ++ (bs ++ [])) := .cons (Reads.keeps kept2 ra) (.cons (Reads.keeps kept2 rb) .nil)
  refine call_function_tree F.kind_min F.plain_min F.entry_min (F.args_min2 _ _) ?_
  refine wpAny_bind (wpAny_of_eq (show Builtin.Builtins.bindParams "min" ["key", "default"] 0 ⟨[], []⟩ = pure [none, none] from rfl) ?_); show wpAny _ A.in1 (newTuple [a, b] >>= _) _ _ s
  refine wpAny_bind (wpAny_newObj_type (wpAny_bind (iter_tupleW (A := A.in1) (vs := #[a, b]) hA hT fun s₂ e W st hfp hw hk => ?_)))
  refine wpAny_bind (wpAny_newObj_type ?_)
  have nS : s₂.heap.objs.size ∉ [(s.heap.push { cls := .type "tuple", data := .seq #[a, b] }).objs.size, s.heap.objs.size] := fun hm => Nat.lt_irrefl _ (hfp _ hm)
  rw [nm]
  refine wpAny_pure ⟨plainId_quiet F.plain_min_loop _, codeAny_min_loop_firstH W (s.heap.push { cls := .type "tuple", data := .seq #[a, b] }) hw _ (cmpIn_lt (prog := prog) (w := w) (A := A.in1) (s := { s with heap := s.heap.push { cls := .type "tuple", data := .seq #[a, b] } }) (vs := #[a, b]) rd al (by show A.units + 1 + _ < _; exact hu)) s₂.heap.objs.size nS (fresh_in hk) _ (show 0 < 2 by decide)
    (fun c o q => Heap.get?_push_of_some _ (hk c o q)) (W.frame 0 s₂ _ s₂.toks st (Nat.le_refl _) fun c _ o q => Heap.get?_push_of_some _ q) (Heap.get?_push_size _ rfl) fun v s' hP hm => ?_⟩
  obtain ⟨h', tk, rfl, hk'⟩ := moved_old e rfl (Moved.drop_new (tk := s₂.toks) hm (Nat.le_refl _))
  have q := h h' tk fun c o z => hk' c o (kept2 c o z)
  have best : argBest (fun i j => dataLt (([x, y] : List PyData).getD i .none) (([x, y] : List PyData).getD j .none)) ((#[a, b] : Array Value).size - 1) = if dataLt y x = true then 1 else 0 := rfl
  rw [best] at hP
  by_cases c : dataLt y x = true
  · rw [if_pos c] at hP q
    obtain rfl : b = v := Option.some.inj hP
    exact q
  · rw [if_neg c] at hP q
    obtain rfl : a = v := Option.some.inj hP
    exact q
/-- max(a, b) of two alike data: the first one, unless the second one is greater -/
theorem max_two_data {a b : Value} {x y : PyData} {as bs : List Addr} {Q : Value → Shared → Prop} (hA : A.handled = none) (ra : Reads s.heap a x as) (rb : Reads s.heap b y bs) (al : AlikeAll [x, y]) (hu : A.units + 1 + PyData.depthAll [x, y] < cLine)
    (h : ∀ h' tk, (∀ c o, s.heap.get? c = some o → h'.get? c = some o) → Q (if dataLt x y = true then b else a) { s with heap := h', toks := tk }) : wpAny (model prog w) A (call (.builtin "max") [a, b]) Q E s := by
  have nm : (toString "max" ++ toString ".loop" : String) = "max.loop" := by decide
  have hT : (s.heap.push { cls := .type "tuple", data := .seq #[a, b] }).IsTuple s.heap.objs.size #[a, b] := ⟨_, Heap.get?_push_size _ rfl, rfl, 0, rfl⟩
  have rd : ReadsAll (s.heap.push { cls := .type "tuple", data := .seq #[a, b] }) (#[a, b] : Array Value).toList [x, y] (as ++ (bs ++ [])) := .cons (Reads.keeps kept2 ra) (.cons (Reads.keeps kept2 rb) .nil)
  refine call_function_tree F.kind_max F.plain_max F.entry_max (F.args_max2 _ _) ?_
  refine wpAny_bind (wpAny_of_eq (show Builtin.Builtins.bindParams "max" ["key", "default"] 0 ⟨[], []⟩ = pure [none, none] from rfl) ?_); show wpAny _ A.in1 (newTuple [a, b] >>= _) _ _ s
  refine wpAny_bind (wpAny_newObj_type (wpAny_bind (iter_tupleW (A := A.in1) (vs := #[a, b]) hA hT fun s₂ e W st hfp hw hk => ?_)))
  refine wpAny_bind (wpAny_newObj_type ?_)
  have nS : s₂.heap.objs.size ∉ [(s.heap.push { cls := .type "tuple", data := .seq #[a, b] }).objs.size, s.heap.objs.size] := fun hm => Nat.lt_irrefl _ (hfp _ hm)
  rw [nm]
  refine wpAny_pure ⟨plainId_quiet F.plain_max_loop _, codeAny_max_loop_firstH W (s.heap.push { cls := .type "tuple", data := .seq #[a, b] }) hw _ (cmpIn_gt (prog := prog) (w := w) (A := A.in1) (s := { s with heap := s.heap.push { cls := .type "tuple", data := .seq #[a, b] } }) (vs := #[a, b]) rd al (by show A.units + 1 + _ < _; exact hu)) s₂.heap.objs.size nS (fresh_in hk) _ (show 0 < 2 by decide)
    (fun c o q => Heap.get?_push_of_some _ (hk c o q)) (W.frame 0 s₂ _ s₂.toks st (Nat.le_refl _) fun c _ o q => Heap.get?_push_of_some _ q) (Heap.get?_push_size _ rfl) fun v s' hP hm => ?_⟩
  obtain ⟨h', tk, rfl, hk'⟩ := moved_old e rfl (Moved.drop_new (tk := s₂.toks) hm (Nat.le_refl _))
  have q := h h' tk fun c o z => hk' c o (kept2 c o z)
  have best : argBest (fun i j => dataLt (([x, y] : List PyData).getD j .none) (([x, y] : List PyData).getD i .none)) ((#[a, b] : Array Value).size - 1) = if dataLt x y = true then 1 else 0 := rfl
  rw [best] at hP
  by_cases c : dataLt x y = true
  · rw [if_pos c] at hP q
    obtain rfl : b = v := Option.some.inj hP
    exact q
  · rw [if_neg c] at hP q
    obtain rfl : a = v := Option.some.inj hP
    exact q
end
end Ord2
end PySem
namespace My
open PySem L2
/-- the order of points -/
def ltP (ax ay bx dy : Int) : Bool := decide (ax < bx ∨ (ax = bx ∧ ay < dy))
theorem OpR.of {X : Cx} {f : Value → Value → Sem Value} {r r' : R2} (h : OpR X f r) (w : ∀ x y H Q, r' x y H Q → r x y H Q) : OpR X f r' := by
  intro pins s σ H x y v u Q I rx ry q
  exact h pins s σ H x y v u Q I rx ry (w x y H Q q)
def pD (x y : Int) : PyData := .tuple [.int x, .int y]
theorem dP {K : PySem.W.Frag} {H : Hp} {a : Addr} {x y : Int} (h : SqT K H a [.int x, .int y]) : Dp K H (.ref a) (pD x y) := .tup h (.cons (.int _) (.cons (.int _) .nil))
theorem alikeP (ax ay bx dy : Int) : PySem.W.AlikeAll [pD ax ay, pD bx dy] := by
  unfold PySem.W.AlikeAll pD
  simp [PySem.W.alike, PySem.W.alikeAll]
theorem depthP (ax ay bx dy : Int) : PyData.depthAll [pD ax ay, pD bx dy] ≤ 8 := by
  unfold pD
  simp [PyData.depthAll, PyData.depth]
/-- two points, what is asked of a function of their numbers -/
def rPP (K : PySem.W.Frag) (f : Int → Int → Int → Int → V) : R2 := fun x y H Q => ∃ (a b : Addr) (ax ay bx dy : Int), x = .ref a ∧ y = .ref b ∧ SqT K H a [.int ax, .int ay] ∧ SqT K H b [.int bx, .int dy] ∧ Q (f ax ay bx dy) H
theorem lexLt2 (ax ay bx dy : Int) : HT.lexLt [ax, ay] [bx, dy] = ltP ax ay bx dy := by
  unfold ltP HT.lexLt HT.lexLt HT.lexLt
  by_cases h : ax = bx
  · subst h
    rw [if_pos rfl]
    by_cases g : ay = dy
    · subst g; rw [if_pos rfl]; simp
    · rw [if_neg g]; simp
  · rw [if_neg h]; simp [h]
theorem op_ltP {X : Cx} (hu : X.A.units < cLine) : OpR X (compareOp .Lt) (rPP X.K fun ax ay bx dy => .bl (ltP ax ay bx dy)) :=
  OpR.of (op_ltT hu) fun x y H Q ⟨a, b, ax, ay, bx, dy, e1, e2, ha, hb, q⟩ => ⟨a, b, [ax, ay], [bx, dy], e1, e2, ha, hb, by rw [lexLt2]; exact q⟩
theorem op_leP {X : Cx} (hu : X.A.units < cLine) : OpR X (compareOp .LtE) (rPP X.K fun ax ay bx dy => .bl (!ltP bx dy ax ay)) :=
  OpR.of (op_leT hu) fun x y H Q ⟨a, b, ax, ay, bx, dy, e1, e2, ha, hb, q⟩ => ⟨a, b, [ax, ay], [bx, dy], e1, e2, ha, hb, by
    have e : Ob.lexAt (fun j => decide (([ax, ay] : List Int).getD j 0 = ([bx, dy] : List Int).getD j 0)) (fun j => decide (([ax, ay] : List Int).getD j 0 ≤ ([bx, dy] : List Int).getD j 0)) (decide (([ax, ay] : List Int).length ≤ ([bx, dy] : List Int).length)) 0 (min ([ax, ay] : List Int).length ([bx, dy] : List Int).length) = !ltP bx dy ax ay := by
      show (if decide (ax = bx) = true then (if decide (ay = dy) = true then true else decide (ay ≤ dy)) else decide (ax ≤ bx)) = _
      unfold ltP
      by_cases h : ax = bx
      · subst h
        by_cases g : ay = dy
        · subst g; simp
        · have : decide (ay ≤ dy) = !decide (dy < ay) := by
            by_cases z : ay ≤ dy
            · rw [decide_eq_true z, decide_eq_false (by omega)]; rfl
            · rw [decide_eq_false z, decide_eq_true (by omega)]; rfl
          simp [g, this]
      · by_cases z : ax ≤ bx
        · have : ¬ bx < ax := by omega
          have h2 : ¬ bx = ax := fun e => h e.symm
          simp [h, z, this, h2]
        · have : bx < ax := by omega
          simp [h, z, this]
    rw [e]; exact q⟩
theorem eqvP (ax ay bx dy : Int) : PyData.eqv (pD ax ay) (pD bx dy) = decide (ax = bx ∧ ay = dy) := by
  unfold pD
  simp [PyData.eqv, PyData.eqvAll]
  by_cases h : ax = bx <;> by_cases g : ay = dy <;> simp [h, g]
theorem op_eqP {X : Cx} (hu : X.A.units + 64 < cLine) : OpR X (compareOp .Eq) (rPP X.K fun ax ay bx dy => .bl (decide (ax = bx ∧ ay = dy))) :=
  OpR.of (op_eqD hu) fun x y H Q ⟨a, b, ax, ay, bx, dy, e1, e2, ha, hb, q⟩ => by subst e1 e2; exact ⟨_, _, dP ha, dP hb, rfl, rfl, by rw [eqvP]; exact q⟩
theorem op_neP {X : Cx} (hu : X.A.units + 64 < cLine) : OpR X (compareOp .NotEq) (rPP X.K fun ax ay bx dy => .bl (!decide (ax = bx ∧ ay = dy))) :=
  OpR.of (op_neD hu) fun x y H Q ⟨a, b, ax, ay, bx, dy, e1, e2, ha, hb, q⟩ => by subst e1 e2; exact ⟨_, _, dP ha, dP hb, rfl, rfl, by rw [eqvP]; exact q⟩
/-- min, max of two points -/
def rMM (K : PySem.W.Frag) (f : Int → Int → Int → Int → Bool) : List V → Hp → VK → Prop := fun xs H Q => ∃ (a b : Addr) (ax ay bx dy : Int), xs = [.ref a, .ref b] ∧ SqT K H a [.int ax, .int ay] ∧ SqT K H b [.int bx, .int dy] ∧
  Q (.ref (if f ax ay bx dy = true then b else a)) H
theorem call_minP {X : Cx} (hc : X.calm = true) (hu : X.A.units + 64 < cLine) : CallR X (.builtin "min") (rMM X.K fun ax ay bx dy => ltP bx dy ax ay) := by
  intro pins s σ H xs us Q I r h
  obtain ⟨a, b, ax, ay, bx, dy, rfl, ha, hb, q⟩ := h
  obtain ⟨u, v, rfl, ru, rv⟩ := vals2 r
  obtain rfl : u = Value.ref a := ru
  obtain rfl : v = Value.ref b := rv
  obtain ⟨as, r1⟩ := Dp.reads I _ _ (.ref a) (dP ha) rfl
  obtain ⟨bs, r2⟩ := Dp.reads I _ _ (.ref b) (dP hb) rfl
  refine Ord2.min_two_data (I.ok.hd hc) r1 r2 (alikeP ..) (by have := depthP ax ay bx dy; omega) fun h' tk k => ⟨_, H, I.kept k, ?_, q⟩
  show _ = Value.ref _
  rw [show PySem.W.dataLt (pD bx dy) (pD ax ay) = ltP bx dy ax ay from PySem.W.dataLt_ii ..]
  split <;> rfl
theorem call_maxP {X : Cx} (hc : X.calm = true) (hu : X.A.units + 64 < cLine) : CallR X (.builtin "max") (rMM X.K fun ax ay bx dy => ltP ax ay bx dy) := by
  intro pins s σ H xs us Q I r h
  obtain ⟨a, b, ax, ay, bx, dy, rfl, ha, hb, q⟩ := h
  obtain ⟨u, v, rfl, ru, rv⟩ := vals2 r
  obtain rfl : u = Value.ref a := ru
  obtain rfl : v = Value.ref b := rv
  obtain ⟨as, r1⟩ := Dp.reads I _ _ (.ref a) (dP ha) rfl
  obtain ⟨bs, r2⟩ := Dp.reads I _ _ (.ref b) (dP hb) rfl
  refine Ord2.max_two_data (I.ok.hd hc) r1 r2 (alikeP ..) (by have := depthP ax ay bx dy; omega) fun h' tk k => ⟨_, H, I.kept k, ?_, q⟩
  show _ = Value.ref _
  rw [show PySem.W.dataLt (pD ax ay) (pD bx dy) = ltP ax ay bx dy from PySem.W.dataLt_ii ..]
  split <;> rfl
end My
namespace My
/-! ## a point and a segment: v from end to end, u from the first end to the point -/
theorem low_le {n1 d1 n2 d2 N1 D1 N2 D2 : Int} (L1 : LowOk n1 d1 N1 D1) (L2 : LowOk n2 d2 N2 D2) (p1 : 0 < d1) (p2 : 0 < d2) (h : n1 * d2 ≤ n2 * d1) : N1 * D2 ≤ N2 * D1 := by
  obtain ⟨⟨g1, _, e1, e2⟩, q1, _⟩ := L1
  obtain ⟨⟨g2, _, e3, e4⟩, q2, _⟩ := L2
  have g1p : 0 < g1 := by
    rcases Int.lt_or_le 0 g1 with z | z
    · exact z
    · have := Int.mul_nonpos_of_nonpos_of_nonneg z (Int.le_of_lt q1); omega
  have g2p : 0 < g2 := by
    rcases Int.lt_or_le 0 g2 with z | z
    · exact z
    · have := Int.mul_nonpos_of_nonpos_of_nonneg z (Int.le_of_lt q2); omega
  have gg := Int.mul_pos g1p g2p
  have h1 : g1 * g2 * (N1 * D2) ≤ g1 * g2 * (N2 * D1) := by
    have a1 : g1 * g2 * (N1 * D2) = n1 * d2 := by rw [e1, e4]; grind
    have a2 : g1 * g2 * (N2 * D1) = n2 * d1 := by rw [e3, e2]; grind
    omega
  exact Int.le_of_mul_le_mul_left h1 gg
/-- how far the point is from the place n / d of the way, times d, squared -/
def gapN (ux uy vx vy n d : Int) : Int := (ux * d - n * vx) * (ux * d - n * vx) + (uy * d - n * vy) * (uy * d - n * vy)
def sq (vx vy : Int) : Int := vx * vx + vy * vy
def dot (ux uy vx vy : Int) : Int := ux * vx + uy * vy
def crs (ux uy vx vy : Int) : Int := vx * uy - vy * ux
def clamp (al s : Int) : Int := if s < (if 0 > al then 0 else al) then s else (if 0 > al then 0 else al)
theorem gap_id (ux uy vx vy n d : Int) : sq vx vy * gapN ux uy vx vy n d = d * d * (crs ux uy vx vy * crs ux uy vx vy) + (d * dot ux uy vx vy - n * sq vx vy) * (d * dot ux uy vx vy - n * sq vx vy) := by
  unfold sq gapN crs dot; grind
theorem sq_mono {x y : Int} (h0 : 0 ≤ x) (h : x ≤ y) : x * x ≤ y * y := Int.mul_le_mul h h h0 (by omega)
theorem sq_neg {x y : Int} (h0 : x ≤ 0) (h : y ≤ x) : x * x ≤ y * y := by
  have := sq_mono (x := -x) (y := -y) (by omega) (by omega)
  rwa [Int.neg_mul_neg, Int.neg_mul_neg] at this
theorem sq_nn (x : Int) : 0 ≤ x * x := by
  rcases Int.le_total 0 x with h | h
  · exact Int.mul_nonneg h h
  · exact Int.mul_nonneg_of_nonpos_of_nonpos h h
theorem sq_pos {vx vy : Int} (h : vx ≠ 0 ∨ vy ≠ 0) : 0 < sq vx vy := by
  unfold sq
  have a := sq_nn vx
  have b := sq_nn vy
  rcases h with h | h
  · have : vx * vx ≠ 0 := Int.mul_ne_zero h h
    omega
  · have : vy * vy ≠ 0 := Int.mul_ne_zero h h
    omega
/-- the nearest place: no other one is nearer -/
theorem clamp_best {al s d2 n2 : Int} (hs : 0 < s) (h0 : 0 ≤ n2) (h1 : n2 ≤ d2) (hd : 0 < d2) : (d2 * al - d2 * clamp al s) * (d2 * al - d2 * clamp al s) ≤ (d2 * al - n2 * s) * (d2 * al - n2 * s) := by
  have hn : 0 ≤ n2 * s := Int.mul_nonneg h0 (by omega)
  have hm : n2 * s ≤ d2 * s := Int.mul_le_mul_of_nonneg_right h1 (by omega)
  unfold clamp
  by_cases c : 0 > al
  · rw [if_pos c, if_neg (by omega)]
    have : d2 * al ≤ 0 := Int.mul_nonpos_of_nonneg_of_nonpos (by omega) (by omega)
    exact sq_neg (by omega) (by omega)
  · rw [if_neg c]
    by_cases g : s < al
    · rw [if_pos g]
      have : d2 * s ≤ d2 * al := Int.mul_le_mul_of_nonneg_left (by omega) (by omega)
      exact sq_mono (by omega) (by omega)
    · rw [if_neg g, Int.sub_self, Int.zero_mul]
      exact sq_nn _
theorem foot_id {ux uy vx vy n d g : Int} (e1 : clamp (dot ux uy vx vy) (sq vx vy) = g * n) (e2 : sq vx vy = g * d) :
    sq vx vy * gapN ux uy vx vy n d = d * d * (crs ux uy vx vy * crs ux uy vx vy + (dot ux uy vx vy - clamp (dot ux uy vx vy) (sq vx vy)) * (dot ux uy vx vy - clamp (dot ux uy vx vy) (sq vx vy))) := by
  rw [gap_id]
  have : n * sq vx vy = clamp (dot ux uy vx vy) (sq vx vy) * d := by rw [e1, e2]; grind
  rw [this]; grind
theorem gap_least {ux uy vx vy n d n2 d2 : Int} (hs : 0 < sq vx vy) (L : LowOk (clamp (dot ux uy vx vy) (sq vx vy)) (sq vx vy) n d) (h0 : 0 ≤ n2) (h1 : n2 ≤ d2) (hd : 0 < d2) :
    gapN ux uy vx vy n d * (d2 * d2) ≤ gapN ux uy vx vy n2 d2 * (d * d) := by
  obtain ⟨⟨g, _, e1, e2⟩, dp, _⟩ := L
  have i1 := foot_id (ux := ux) (uy := uy) e1 e2
  have i2 := gap_id ux uy vx vy n2 d2
  have b := clamp_best (al := dot ux uy vx vy) hs h0 h1 hd
  have dd : 0 ≤ d * d := sq_nn d
  have b2 := Int.mul_le_mul_of_nonneg_left b dd
  refine Int.le_of_mul_le_mul_left (a := sq vx vy) ?_ hs
  generalize hT : crs ux uy vx vy * crs ux uy vx vy = t at i1 i2
  generalize gapN ux uy vx vy n d = g1 at i1 ⊢
  generalize gapN ux uy vx vy n2 d2 = g2 at i2 ⊢
  have r1 : sq vx vy * (g1 * (d2 * d2)) = d * d * (t + (dot ux uy vx vy - clamp (dot ux uy vx vy) (sq vx vy)) * (dot ux uy vx vy - clamp (dot ux uy vx vy) (sq vx vy))) * (d2 * d2) := by rw [← i1]; grind
  have r2 : sq vx vy * (g2 * (d * d)) = (d2 * d2 * t + (d2 * dot ux uy vx vy - n2 * sq vx vy) * (d2 * dot ux uy vx vy - n2 * sq vx vy)) * (d * d) := by rw [← i2]; grind
  rw [r1, r2]
  have r3 : d * d * (t + (dot ux uy vx vy - clamp (dot ux uy vx vy) (sq vx vy)) * (dot ux uy vx vy - clamp (dot ux uy vx vy) (sq vx vy))) * (d2 * d2) = d2 * d2 * t * (d * d) + d * d * ((d2 * dot ux uy vx vy - d2 * clamp (dot ux uy vx vy) (sq vx vy)) * (d2 * dot ux uy vx vy - d2 * clamp (dot ux uy vx vy) (sq vx vy))) := by grind
  have r4 : (d2 * d2 * t + (d2 * dot ux uy vx vy - n2 * sq vx vy) * (d2 * dot ux uy vx vy - n2 * sq vx vy)) * (d * d) = d2 * d2 * t * (d * d) + d * d * ((d2 * dot ux uy vx vy - n2 * sq vx vy) * (d2 * dot ux uy vx vy - n2 * sq vx vy)) := by grind
  rw [r3, r4]
  omega
/-! ### on the segment -/
/-- by the order of points -/
def onB (ux uy vx vy : Int) : Bool := decide (crs ux uy vx vy = 0) && (!ltP ux uy 0 0 && !ltP vx vy ux uy)
/-- by the ranges -/
def boxB (ux uy vx vy : Int) : Bool := decide (crs ux uy vx vy = 0) && ((decide ((if vx < 0 then vx else 0) ≤ ux) && decide (ux ≤ (if vx > 0 then vx else 0))) && (decide ((if vy < 0 then vy else 0) ≤ uy) && decide (uy ≤ (if vy > 0 then vy else 0))))
/-- on the line: between the ends exactly if the product is -/
theorem on_line {ux uy vx vy : Int} (hl : ltP 0 0 vx vy = true) (ht : crs ux uy vx vy = 0) :
    ((!ltP ux uy 0 0 && !ltP vx vy ux uy) = true ↔ 0 ≤ dot ux uy vx vy ∧ dot ux uy vx vy ≤ sq vx vy) ∧
    (((decide ((if vx < 0 then vx else 0) ≤ ux) && decide (ux ≤ (if vx > 0 then vx else 0))) && (decide ((if vy < 0 then vy else 0) ≤ uy) && decide (uy ≤ (if vy > 0 then vy else 0)))) = true ↔ 0 ≤ dot ux uy vx vy ∧ dot ux uy vx vy ≤ sq vx vy) := by
  have hv : 0 < vx ∨ (0 = vx ∧ 0 < vy) := of_decide_eq_true hl
  have ht : vx * uy = vy * ux := by unfold crs at ht; omega
  have hs : 0 < sq vx vy := sq_pos (by omega)
  rcases hv with hv | ⟨rfl, hv⟩
  · -- it goes to the right
    have e : sq vx vy * ux = dot ux uy vx vy * vx := by
      unfold sq dot
      have : vy * (vx * uy) = vy * (vy * ux) := by rw [ht]
      grind
    have k1 : 0 ≤ dot ux uy vx vy ↔ 0 ≤ ux := by
      constructor
      · intro h
        have := Int.mul_nonneg h (Int.le_of_lt hv)
        rw [← e] at this
        exact Int.nonneg_of_mul_nonneg_right this hs
      · intro h
        have := Int.mul_nonneg (Int.le_of_lt hs) h
        rw [e] at this
        exact Int.nonneg_of_mul_nonneg_left this hv
    have k2 : dot ux uy vx vy ≤ sq vx vy ↔ ux ≤ vx := by
      constructor
      · intro h
        have := Int.mul_le_mul_of_nonneg_right h (Int.le_of_lt hv)
        rw [← e] at this
        exact Int.le_of_mul_le_mul_left this hs
      · intro h
        have := Int.mul_le_mul_of_nonneg_left h (Int.le_of_lt hs)
        rw [e] at this
        exact Int.le_of_mul_le_mul_right this hv
    rw [k1, k2]
    have z0 : ux = 0 → uy = 0 := fun z => by
      rw [z, Int.mul_zero] at ht
      rcases Int.mul_eq_zero.mp ht with q | q <;> omega
    have z1 : ux = vx → uy = vy := fun z => by
      rw [z, Int.mul_comm vy vx] at ht
      exact Int.eq_of_mul_eq_mul_left (by omega) ht
    refine ⟨?_, ?_⟩
    · unfold ltP
      simp only [Bool.and_eq_true, Bool.not_eq_true', decide_eq_false_iff_not]
      omega
    · simp only [Bool.and_eq_true, decide_eq_true_eq]
      constructor
      · rintro ⟨⟨h1, h2⟩, _⟩
        rw [if_neg (by omega)] at h1
        rw [if_pos (by omega)] at h2
        exact ⟨h1, h2⟩
      · rintro ⟨h1, h2⟩
        refine ⟨⟨by rw [if_neg (by omega)]; exact h1, by rw [if_pos (by omega)]; exact h2⟩, ?_⟩
        rcases Int.lt_trichotomy vy 0 with y | y | y
        · have a1 : vy * ux ≤ 0 := Int.mul_nonpos_of_nonpos_of_nonneg (by omega) h1
          have a2 : vy * vx ≤ vy * ux := Int.mul_le_mul_of_nonpos_left (by omega) h2
          have a3 : uy ≤ 0 := by
            rcases Int.le_total uy 0 with q | q
            · exact q
            · rcases Int.lt_or_le 0 uy with r | r
              · have := Int.mul_pos hv r; omega
              · exact r
          have a4 : vy ≤ uy := by
            have : vx * vy ≤ vx * uy := by rw [ht, Int.mul_comm vx vy]; exact a2
            exact Int.le_of_mul_le_mul_left this hv
          rw [if_pos y, if_neg (by omega)]
          exact ⟨a4, a3⟩
        · have : uy = 0 := by
            rw [y, Int.zero_mul] at ht
            rcases Int.mul_eq_zero.mp ht with q | q <;> omega
          rw [if_neg (by omega), if_neg (by omega)]
          omega
        · have a1 : 0 ≤ vy * ux := Int.mul_nonneg (by omega) h1
          have a2 : vy * ux ≤ vy * vx := Int.mul_le_mul_of_nonneg_left h2 (by omega)
          have a3 : 0 ≤ uy := by
            rcases Int.lt_or_le uy 0 with r | r
            · have := Int.mul_neg_of_pos_of_neg hv r; omega
            · exact r
          have a4 : uy ≤ vy := by
            have : vx * uy ≤ vx * vy := by rw [ht, Int.mul_comm vx vy]; exact a2
            exact Int.le_of_mul_le_mul_left this hv
          rw [if_neg (by omega), if_pos y]
          exact ⟨a3, a4⟩
  · -- it goes up
    have u0 : ux = 0 := by
      rw [Int.zero_mul] at ht
      rcases Int.mul_eq_zero.mp ht.symm with q | q <;> omega
    subst u0
    have d1 : dot 0 uy 0 vy = uy * vy := by unfold dot; omega
    have d2 : sq 0 vy = vy * vy := by unfold sq; omega
    rw [d1, d2]
    have k1 : 0 ≤ uy * vy ↔ 0 ≤ uy := by
      constructor
      · intro h; exact Int.nonneg_of_mul_nonneg_left h hv
      · intro h; exact Int.mul_nonneg h (by omega)
    have k2 : uy * vy ≤ vy * vy ↔ uy ≤ vy := by
      constructor
      · intro h; exact Int.le_of_mul_le_mul_right h hv
      · intro h; exact Int.mul_le_mul_of_nonneg_right h (by omega)
    rw [k1, k2]
    refine ⟨?_, ?_⟩
    · clear k1 k2 d1 d2 hs
      unfold ltP
      simp only [Bool.and_eq_true, Bool.not_eq_true', decide_eq_false_iff_not]
      simp only [true_and]
      omega
    · simp only [Bool.and_eq_true, decide_eq_true_eq]
      rw [if_neg (show ¬ vy < 0 by omega), if_pos (show vy > 0 by omega)]
      simp
theorem on_same {ux uy vx vy : Int} (hv : ltP 0 0 vx vy = true) : onB ux uy vx vy = boxB ux uy vx vy := by
  unfold onB boxB
  by_cases ht : crs ux uy vx vy = 0
  · obtain ⟨k1, k2⟩ := on_line hv ht
    rw [decide_eq_true ht, Bool.true_and, Bool.true_and]
    exact Bool.eq_iff_iff.mpr (k1.trans k2.symm)
  · rw [decide_eq_false ht, Bool.false_and, Bool.false_and]
/-- the gap is 0 exactly on the segment -/
theorem gap_zero {ux uy vx vy n d N D : Int} (hv : ltP 0 0 vx vy = true) (L : LowOk (clamp (dot ux uy vx vy) (sq vx vy)) (sq vx vy) n d) (M : LowOk (gapN ux uy vx vy n d) (d * d) N D) :
    decide (N = 0 ∧ D = 1) = boxB ux uy vx vy := by
  have hv' : 0 < vx ∨ (0 = vx ∧ 0 < vy) := of_decide_eq_true hv
  have hs : 0 < sq vx vy := sq_pos (by omega)
  obtain ⟨⟨g, _, e1, e2⟩, dp, _⟩ := L
  have i1 := foot_id (ux := ux) (uy := uy) e1 e2
  -- the gap's number is 0 exactly if the point is on the line and the product in its range
  have z : gapN ux uy vx vy n d = 0 ↔ crs ux uy vx vy = 0 ∧ (0 ≤ dot ux uy vx vy ∧ dot ux uy vx vy ≤ sq vx vy) := by
    have cl : dot ux uy vx vy - clamp (dot ux uy vx vy) (sq vx vy) = 0 ↔ 0 ≤ dot ux uy vx vy ∧ dot ux uy vx vy ≤ sq vx vy := by
      unfold clamp
      split <;> split at * <;> omega
    rw [← cl]
    generalize dot ux uy vx vy - clamp (dot ux uy vx vy) (sq vx vy) = w at i1
    generalize crs ux uy vx vy = t at i1
    have a := sq_nn t
    have b := sq_nn w
    constructor
    · intro h
      rw [h, Int.mul_zero] at i1
      have dd : d * d ≠ 0 := Int.mul_ne_zero (by omega) (by omega)
      have s0 : t * t + w * w = 0 := by
        rcases Int.mul_eq_zero.mp i1.symm with q | q
        · exact absurd q dd
        · exact q
      have t0 : t * t = 0 := by omega
      have w0 : w * w = 0 := by omega
      exact ⟨by rcases Int.mul_eq_zero.mp t0 with q | q <;> exact q, by rcases Int.mul_eq_zero.mp w0 with q | q <;> exact q⟩
    · rintro ⟨rfl, rfl⟩
      have : sq vx vy * gapN ux uy vx vy n d = 0 := by rw [i1]; simp
      rcases Int.mul_eq_zero.mp this with q | q
      · omega
      · exact q
  have m : (N = 0 ∧ D = 1) ↔ gapN ux uy vx vy n d = 0 := by
    obtain ⟨⟨h, h0, f1, f2⟩, Dp, one⟩ := M
    constructor
    · rintro ⟨rfl, _⟩
      rw [f1, Int.mul_zero]
    · intro q
      rw [q] at f1
      have N0 : N = 0 := by
        rcases Int.mul_eq_zero.mp f1.symm with r | r
        · exact absurd r h0
        · exact r
      rw [N0] at one
      have one : Nat.gcd 0 D.natAbs = 1 := one
      rw [Nat.gcd_zero_left] at one
      exact ⟨N0, by omega⟩
  unfold boxB
  by_cases ht : crs ux uy vx vy = 0
  · obtain ⟨_, k2⟩ := on_line hv ht
    rw [decide_eq_true ht, Bool.true_and]
    refine Bool.eq_iff_iff.mpr ?_
    rw [decide_eq_true_eq, m, z, k2]
    exact ⟨fun h => h.2, fun h => ⟨ht, h⟩⟩
  · rw [decide_eq_false ht, Bool.false_and]
    exact decide_eq_false fun q => ht (z.mp (m.mp q)).1
end My
namespace My
open PySem L2
theorem ltP_sub (ax ay bx dy cx cy : Int) : ltP (ax - cx) (ay - cy) (bx - cx) (dy - cy) = ltP ax ay bx dy := by
  unfold ltP
  exact decide_eq_decide.mpr (by omega)
theorem ltP_sub0 (ax ay cx cy : Int) : ltP (ax - cx) (ay - cy) 0 0 = ltP ax ay cx cy := by
  unfold ltP
  exact decide_eq_decide.mpr (by omega)
theorem ltP_0sub (ax ay cx cy : Int) : ltP 0 0 (ax - cx) (ay - cy) = ltP cx cy ax ay := by
  unfold ltP
  exact decide_eq_decide.mpr (by omega)
/-- on the segment, told by the program -/
def onI (ax ay bx dy px py : Int) : Bool := decide (turnI ax ay bx dy px py = 0) && (!ltP px py ax ay && !ltP bx dy px py)
/-- on the segment, told by the law -/
def boxI (ax ay bx dy px py : Int) : Bool := decide (turnI ax ay bx dy px py = 0) && ((decide ((if bx < ax then bx else ax) ≤ px) && decide (px ≤ (if bx > ax then bx else ax))) && (decide ((if dy < ay then dy else ay) ≤ py) && decide (py ≤ (if dy > ay then dy else ay))))
theorem onI_B (ax ay bx dy px py : Int) : onI ax ay bx dy px py = onB (px - ax) (py - ay) (bx - ax) (dy - ay) := by
  unfold onI onB
  rw [ltP_sub0, ltP_sub]
  rfl
theorem boxI_B (ax ay bx dy px py : Int) : boxI ax ay bx dy px py = boxB (px - ax) (py - ay) (bx - ax) (dy - ay) := by
  have e1 : ∀ a b p : Int, decide ((if b < a then b else a) ≤ p) = decide ((if b - a < 0 then b - a else 0) ≤ p - a) := fun a b p => decide_eq_decide.mpr (by split <;> split <;> omega)
  have e2 : ∀ a b p : Int, decide (p ≤ (if b > a then b else a)) = decide (p - a ≤ (if b - a > 0 then b - a else 0)) := fun a b p => decide_eq_decide.mpr (by split <;> split <;> omega)
  unfold boxI boxB
  rw [e1 ax bx px, e2 ax bx px, e1 ay dy py, e2 ay dy py]
  rfl
theorem onI_box {ax ay bx dy px py : Int} (h : ltP ax ay bx dy = true) : onI ax ay bx dy px py = boxI ax ay bx dy px py := by
  rw [onI_B, boxI_B]
  exact on_same (by rw [ltP_0sub]; exact h)
theorem clamp_law {al s : Int} (h : 0 < s) : (if (if al < s then al else s) > 0 then (if al < s then al else s) else 0) = clamp al s := by
  unfold clamp
  split <;> split <;> split <;> (try split) <;> omega
/-- the numbers of a point of the map, from another one -/
theorem On.d {ax ay px py : Int} (h : On px py) (g : On ax ay) : ((px - ax).natAbs ≤ 2 ^ 11 ∧ (py - ay).natAbs ≤ 2 ^ 11) := by unfold On at h g; omega
theorem sq_le {vx vy : Int} (h : vx.natAbs ≤ 2 ^ 11 ∧ vy.natAbs ≤ 2 ^ 11) : (sq vx vy).natAbs ≤ 2 ^ 23 := add_le (mul_le h.1 h.1) (mul_le h.2 h.2)
theorem dot_le {ux uy vx vy : Int} (h : ux.natAbs ≤ 2 ^ 11 ∧ uy.natAbs ≤ 2 ^ 11) (g : vx.natAbs ≤ 2 ^ 11 ∧ vy.natAbs ≤ 2 ^ 11) : (dot ux uy vx vy).natAbs ≤ 2 ^ 23 := add_le (mul_le h.1 g.1) (mul_le h.2 g.2)
theorem clamp_le {al s : Int} (h : al.natAbs ≤ 2 ^ 23) (g : s.natAbs ≤ 2 ^ 23) : (clamp al s).natAbs ≤ 2 ^ 23 := by
  unfold clamp
  split <;> split at * <;> omega
theorem gap_le {ux uy vx vy n d : Int} (h : ux.natAbs ≤ 2 ^ 11 ∧ uy.natAbs ≤ 2 ^ 11) (g : vx.natAbs ≤ 2 ^ 11 ∧ vy.natAbs ≤ 2 ^ 11) (hn : n.natAbs ≤ 2 ^ 23) (hd : d.natAbs ≤ 2 ^ 23) :
    (ux * d - n * vx).natAbs ≤ 2 ^ 35 ∧ (uy * d - n * vy).natAbs ≤ 2 ^ 35 ∧ (gapN ux uy vx vy n d).natAbs ≤ 2 ^ 71 := by
  have e1 : (ux * d - n * vx).natAbs ≤ 2 ^ 35 := sub_le (x := 34) (mul_le (x := 11) (y := 23) h.1 hd) (mul_le (x := 23) (y := 11) hn g.1)
  have e2 : (uy * d - n * vy).natAbs ≤ 2 ^ 35 := sub_le (x := 34) (mul_le (x := 11) (y := 23) h.2 hd) (mul_le (x := 23) (y := 11) hn g.2)
  exact ⟨e1, e2, add_le (x := 70) (mul_le (x := 35) (y := 35) e1 e1) (mul_le (x := 35) (y := 35) e2 e2)⟩
theorem m64 {i : Int} {x : Nat} (h : i.natAbs ≤ 2 ^ x) (hx : x ≤ 63 := by decide) : -(2 ^ 64) < i ∧ i < 2 ^ 64 := by
  have : i.natAbs ≤ 2 ^ 63 := Nat.le_trans h (Nat.pow_le_pow_right (by decide) hx)
  omega
theorem ltP_ne {ax ay bx dy : Int} (h : ltP ax ay bx dy = true) : bx - ax ≠ 0 ∨ dy - ay ≠ 0 := by
  have := of_decide_eq_true h
  omega
/-- a segment at an address -/
structure SegAt (K : PySem.W.Frag) (H : Hp) (g a c : Addr) (ax ay bx dy : Int) : Prop where
  g : SqT K H g [.ref a, .ref c]
  a : SqT K H a [.int ax, .int ay]
  c : SqT K H c [.int bx, .int dy]
  oa : On ax ay
  oc : On bx dy
  lt : ltP ax ay bx dy = true
theorem SegAt.same {K : PySem.W.Frag} {H H' : Hp} {g a c : Addr} {ax ay bx dy : Int} (e : Same H H') (h : SegAt K H g a c ax ay bx dy) : SegAt K H' g a c ax ay bx dy := { h with g := tSame e h.g, a := tSame e h.a, c := tSame e h.c }
theorem SegAt.but {K : PySem.W.Frag} {H H' : Hp} {s b g a c : Addr} {ax ay bx dy : Int} (e : But s H H') (S : Strm H s b) (h : SegAt K H g a c ax ay bx dy) : SegAt K H' g a c ax ay bx dy := { h with g := tButS e S h.g, a := tButS e S h.a, c := tButS e S h.c }
end My
namespace My
open PySem L2
theorem three_get {α : Type} {P : α → α → Prop} {a b c x y z : α} (h0 : P a x) (h1 : P b y) (h2 : P c z) : ∀ (i : Nat) u v, [a, b, c][i]? = some u → [x, y, z][i]? = some v → P u v := by
  intro i u v hu hv
  rcases (show i = 0 ∨ i = 1 ∨ i = 2 by have := (List.getElem?_eq_some_iff.mp hu).1; simp at this; omega) with rfl | rfl | rfl
  · cases hu; cases hv; exact h0
  · cases hu; cases hv; exact h1
  · cases hu; cases hv; exact h2
end My
namespace HT
open PySem PySem.Calls PyProof.Rows PySem.W L2
section
variable {prog : Program} {w : World} {A : Around} {E : Value → Shared → Prop} {s : Shared}
theorem back_two {pair cutter : Addr} {u v st : Value} {Q : Value → Shared → Prop} (isPair : IsTup s.heap pair #[u, v]) (isCut : s.heap.IsSliceOf cutter .none .none st) (minus : IsPart st (some (-1)))
    (h : Q (.ref s.heap.objs.size) { s with heap := s.heap.push { cls := .type "tuple", data := .seq #[v, u] } }) : wpAny (model prog w) A (getItem (.ref pair) (.ref cutter)) Q E s := by
  obtain ⟨oc, hoc, hcc, hdc⟩ := id isCut
  have isS : s.TypeIs (.ref cutter) "slice" := ⟨oc, hoc, hcc⟩
  unfold getItem
  try with_reducible refine wpAny_holding ?_
  first | refine wpAny_bind (wpAny_pure ?_) | skip
  refine wpAny_bind (wpAny_sequenceKey isPair.typeIs (by decide) (?_))
  refine wpAny_bind (wpAny_callSpecial?_slot (name := Str.ofString "__getitem__") isPair.typeIs PyProof.Rows.slot_tuple_getitem (wpAny_call_entry PyProof.Rows.slot_tuple_getitem isPair.typeIs entry_tuple_getitem ?_ (args_tuple_getitem _ _)))
  show wpAny _ _ (Builtin.Tuple.tupleItemsOf (.ref pair) >>= _) _ _ s
  refine wpAny_bind (tupleItemsOf_ isPair ?_)
  refine wpAny_bind (wpAny_typeOf isS (?_))
  rw [if_pos (by decide)]
  have parts : ∀ E' : Value → Shared → Prop, wpAny (model prog w) A.in1 (Builtin.Slice.sliceApplied (.ref cutter) (pure (((#[u, v] : Array Value).size : Nat) : Int))) (fun r s' => r = ((1 : Int), (-1 : Int), 2) ∧ s' = s) E' s := by
    intro E'
    unfold Builtin.Slice.sliceApplied Builtin.Slice.sliceFields
    refine wpAny_bind (wpAny_bind (wpAny_field hoc hdc (x := Value.none) rfl (wpAny_bind (wpAny_field hoc hdc (x := Value.none) rfl (wpAny_bind (wpAny_field hoc hdc (x := st) rfl (wpAny_pure ?_)))))))
    refine wpAny_bind (slicePart_ minus ?_)
    show wpAny _ _ (if ((-1 : Int) == 0) = true then _ else _) _ _ s
    rw [if_neg (by decide)]
    exact wpAny_bind (slicePart_none (wpAny_bind (slicePart_none (wpAny_bind (wpAny_pure (wpAny_pure ⟨by simp [Builtin.Slice.slicePlaces], rfl⟩))))))
  refine wpAny_bind (wpAny_mono (parts _) (fun r s' z => ?_) fun _ _ e => e)
  obtain ⟨rfl, rfl⟩ := z
  show wpAny _ _ (if ((1 : Int) == 0 && (-1 : Int) == 1 && 2 == 2) = true then _ else _) _ _ s'
  rw [if_neg (by decide)]
  first
    | exact wpAny_bind (m := Builtin.Tuple.tupleExact _) (wpAny_newObj_type (wpAny_pure ⟨_, rfl, wpAny_pure h⟩) (by show 2 ≤ sizeLine; decide))
    | exact wpAny_bind (m := Builtin.Tuple.tupleExact _) (wpAny_newObj_type (wpAny_bind (wpAny_pure (wpAny_pure ⟨_, rfl, wpAny_pure h⟩))) (by show 2 ≤ sizeLine; decide))
    | exact wpAny_bind (wpAny_bind (m := Builtin.Tuple.tupleExact _) (wpAny_newObj_type (wpAny_pure (wpAny_pure ⟨_, rfl, wpAny_pure h⟩)) (by show 2 ≤ sizeLine; decide)))
    | exact wpAny_bind (wpAny_bind (m := Builtin.Tuple.tupleExact _) (wpAny_newObj_type (wpAny_pure ⟨_, rfl, wpAny_pure h⟩) (by show 2 ≤ sizeLine; decide)))
end
end HT
namespace My
open PySem PySem.Spec PyProof.Rows L2
section
variable {X : Cx}
def tRev2 (K : PySem.W.Frag) (te : TE) : TE := fun σ H Q => te σ H fun x H1 => ∃ a u v, x = .ref a ∧ SqT K H1 a [u, v] ∧ ∀ p, H1 p = none → Q (.ref p) (upd H1 p (.tup [v, u]))
theorem pe_rev2 {e : Expr} {te : TE} {k : Nat} {p1 p2 p3 pos : Pos} (inner : PE X e te) : PE X (.Subscript e (.Slice none none (some (.UnaryOp .USub (.Constant (.int 1) k p1) p2)) p3) pos) (tRev2 X.K te) := by
  refine ⟨fun pins s σ H Q I goal => ?_⟩
  refine Subscript_ (thn (inner.run pins s σ H _ I goal) fun v s1 ⟨x, H1, I1, r1, q1⟩ => ?_)
  obtain ⟨a, y, z, rfl, two, rest⟩ := q1
  cases r1
  have third : PO X (some (.UnaryOp .USub (.Constant (.int 1) k p1) p2)) (tPart (tUn (rU fun i => .int (-i)) (tC (.int 1)))) := po_some (pe_un un_neg pe_int)
  refine wpAny_Slice (thn (po_none.run pins s1 σ H1 (fun o G => o = none ∧ G = H1) I1 ⟨rfl, rfl⟩) fun vl s2 ⟨l, H2, I2, pl, el, e2⟩ => ?_)
  obtain rfl := el
  obtain rfl := e2
  refine thn (po_none.run pins s2 σ H2 (fun o G => o = none ∧ G = H2) I2 ⟨rfl, rfl⟩) fun vu s3 ⟨u, H3, I3, pu, eu, e3⟩ => ?_
  obtain rfl := eu
  obtain rfl := e3
  refine thn (third.run pins s3 σ H3 (fun o G => o = some (-1) ∧ G = H3) I3 ⟨1, rfl, -1, rfl, rfl, rfl⟩) fun vs s4 ⟨o, H4, I4, ps, eo, e4⟩ => ?_
  obtain rfl := eo
  obtain rfl := e4
  have I5 : Inv X pins σ H4 { s4 with heap := s4.heap.push { cls := .type "slice", data := .fields #[vl, vu, vs] } } := I4.kept (t' := s4.toks) (fun b ob q => Heap.get?_push_of_some _ q)
  obtain ⟨its, r, ht, hz⟩ := I5.tuple two
  cases r with
  | cons ry r => cases r with
    | cons rz r =>
      cases r
      cases pl
      cases pu
      show wpAny (model X.prog X.w) X.A (subscriptTail e (.Slice none none (some (.UnaryOp .USub (.Constant (.int 1) k p1) p2)) p3) (.ref a) (.ref s4.heap.objs.size)) (EP X pins σ Q) X.xe _
      refine tail_any (ops := [.ref a, .ref s4.heap.objs.size]) ht.typeIs PyProof.Rows.slot_tuple_getitem.lookup ?_ (by with_unfolding_all rfl)
      refine HT.back_two ht (Heap.IsSliceOf.new _ _ _ vs) ps ?_
      exact ⟨.ref _, _, I5.laid (t' := s4.toks) (o := .tup [z, y]) (fun b ob q => Heap.get?_push_of_some _ q) (Nat.le_refl _) ⟨by show 2 ≤ sizeLine; decide, _, .cons rz (.cons ry .nil), IsTup.new _ _⟩, rfl, rest _ (I5.hok.fresh (Nat.le_refl _))⟩
end
end My
namespace My
open PySem L2
/-! ## lines, and the nearest of their edges -/
theorem walk_zipT {K : PySem.W.Frag} {a b : Addr} {xs ys : List V} {n : Nat} (hn : n = min xs.length ys.length) : Walk (RZ.ItzT K a b) n (fun H => SqT K H a xs ∧ SqT K H b ys) (YPair (fun i => xs[i]?) (fun i => ys[i]?)) :=
  ⟨fun i H hi g => by
    have l1 : i < xs.length := by omega
    have l2 : i < ys.length := by omega
    exact ⟨xs, ys, _, _, g.1, g.2, get_at l1, get_at l2⟩, fun H g => ⟨xs, ys, g.1, g.2, by omega⟩, fun i H v H' _ g y => by
    obtain ⟨T, x, z, e1, e2, e3, e4, e5⟩ := y
    exact ⟨T, x, z, e1, e2, e3, e4 _ g.1, e5 _ g.2⟩⟩
theorem op_neK {X : Cx} {K : PySem.W.Frag} (hK : X.K = K) (hu : X.A.units + 64 < cLine) : OpR X (compareOp .NotEq) (rPP K fun ax ay bx dy => .bl (!decide (ax = bx ∧ ay = dy))) := by
  subst hK
  exact op_neP hu
section
variable {K : PySem.W.Frag} {H H' : Hp} {a p s D : Addr} {x v : V} {b c : Bool} {xs : List V} {o : HO} {zs : List Zp}
/-- x is a value of which is_point is b -/
def PV (K : PySem.W.Frag) (H : Hp) (x : V) (b : Bool) : Prop := ∃ n, Ty K H x n ∧ (n = "tuple" → ∃ a xs, x = .ref a ∧ SqT K H a xs ∧ (∀ v ∈ xs, ∃ m, Ty K H v m) ∧ b = pointB xs) ∧ (n ≠ "tuple" → b = false)
theorem PV.same (e : Same H H') (h : PV K H x b) : PV K H' x b := by
  obtain ⟨n, t, h1, h2⟩ := h
  refine ⟨n, t.same e, fun q => ?_, h2⟩
  obtain ⟨a, xs, e1, e2, e3, e4⟩ := h1 q
  exact ⟨a, xs, e1, tSame e e2, fun v hv => (e3 v hv).imp fun _ h => h.same e, e4⟩
theorem PV.tup (h : SqT K H a xs) (hm : ∀ v ∈ xs, ∃ m, Ty K H v m) (e : pointB xs = b) : PV K H (.ref a) b := ⟨_, .tup h, fun _ => ⟨_, _, rfl, h, hm, e.symm⟩, fun z => absurd rfl z⟩
theorem PV.no {n : String} (h : Ty K H x n) (hn : n ≠ "tuple") : PV K H x false := ⟨n, h, fun q => absurd q hn, fun _ => rfl⟩
theorem PV.pt {i j : Int} (h : SqT K H a [.int i, .int j]) (g : On i j) : PV K H (.ref a) true := .tup h two_ints g.b
/-- a tuple of values of which is_point is told -/
def AV (K : PySem.W.Frag) (lo hi : Int) (H : Hp) (x : V) (b : Bool) : Prop := ∃ n, Ty K H x n ∧ (n = "tuple" → ∃ (a : Addr) (xs : List V) (bs : List Bool), x = .ref a ∧ SqT K H a xs ∧ xs.length ≤ 1000 ∧ bs.length = xs.length ∧
  (∀ (i : Nat) v c, xs[i]? = some v → bs[i]? = some c → PV K H v c) ∧ b = ((decide (lo ≤ (xs.length : Int)) && decide ((xs.length : Int) ≤ hi)) && bs.all id)) ∧ (n ≠ "tuple" → b = false)
theorem AV.same {lo hi : Int} (e : Same H H') (h : AV K lo hi H x b) : AV K lo hi H' x b := by
  obtain ⟨n, t, h1, h2⟩ := h
  refine ⟨n, t.same e, fun q => ?_, h2⟩
  obtain ⟨a, xs, bs, e1, e2, e3, e4, e5, e6⟩ := h1 q
  exact ⟨a, xs, bs, e1, tSame e e2, e3, e4, fun i v c f g => (e5 i v c f g).same e, e6⟩
/-- points of the map in a tuple -/
structure LnAt (K : PySem.W.Frag) (H : Hp) (a : Addr) (zs : List Zp) : Prop where
  t : SqT K H a (refs zs)
  p : Pts K H zs
  on : ∀ z ∈ zs, On z.2.1 z.2.2
theorem LnAt.same (e : Same H H') (h : LnAt K H a zs) : LnAt K H' a zs := ⟨tSame e h.t, h.p.same e, h.on⟩
theorem LnAt.but {q : Addr} (e : But s H H') (S : Strm H s q) (h : LnAt K H a zs) : LnAt K H' a zs := ⟨tButS e S h.t, h.p.but e S, h.on⟩
theorem LnAt.av {lo hi : Int} (h : LnAt K H a zs) (hz : zs.length ≤ 1000) : AV K lo hi H (.ref a) (decide (lo ≤ (zs.length : Int)) && decide ((zs.length : Int) ≤ hi)) := by
  refine ⟨_, .tup h.t, fun _ => ⟨_, _, List.replicate zs.length true, rfl, h.t, by simpa using hz, by simp, fun i v c e1 e2 => ?_, by simp⟩, fun z => absurd rfl z⟩
  rw [List.getElem?_map] at e1
  obtain ⟨z, e3, rfl⟩ := Option.map_eq_some_iff.mp e1
  have hm := List.mem_of_getElem? e3
  rw [List.getElem?_replicate] at e2
  split at e2
  · injection e2 with e2
    subst e2
    exact .pt (h.p z hm) (h.on z hm)
  · cases e2
/-- neighbours are different -/
def Ne (zs : List Zp) : Prop := ∀ (i : Nat) u w, zs[i]? = some u → zs[i + 1]? = some w → ¬ (u.2.1 = w.2.1 ∧ u.2.2 = w.2.2)
def LnOk (zs : List Zp) : Prop := 2 ≤ zs.length ∧ zs.length ≤ 40 ∧ Ne zs
/-- x is a value of which is_line is b -/
def LnV (K : PySem.W.Frag) (H : Hp) (x : V) (b : Bool) : Prop := (∃ a zs, x = .ref a ∧ LnAt K H a zs ∧ zs.length ≤ 1000 ∧ (b = true ↔ LnOk zs)) ∨ (AV K 2 40 H x false ∧ b = false)
theorem LnV.same (e : Same H H') (h : LnV K H x b) : LnV K H' x b := by
  rcases h with ⟨a, zs, e1, h, h2, h3⟩ | ⟨h, h2⟩
  · exact .inl ⟨a, zs, e1, h.same e, h2, h3⟩
  · exact .inr ⟨h.same e, h2⟩
theorem LnV.no {n : String} (h : Ty K H x n) (hn : n ≠ "tuple") : LnV K H x false := .inr ⟨⟨n, h, fun q => absurd q hn, fun _ => rfl⟩, rfl⟩
theorem LnV.not (h : LnAt K H a zs) (hz : zs.length ≤ 1000) (n : ¬ LnOk zs) : LnV K H (.ref a) false := .inl ⟨a, zs, rfl, h, hz, ⟨fun z => (Bool.false_ne_true z).elim, fun z => (n z).elim⟩⟩
theorem LnV.good (h : LnAt K H a zs) (hz : zs.length ≤ 1000) (n : LnOk zs) : LnV K H (.ref a) true := .inl ⟨a, zs, rfl, h, hz, ⟨fun _ => n, fun _ => rfl⟩⟩
/-- a value that is no point among points -/
theorem LnV.bad {us ws : List Zp} (h : SqT K H a (refs us ++ v :: refs ws)) (pu : Pts K H us) (ou : ∀ z ∈ us, On z.2.1 z.2.2) (pw : Pts K H ws) (ow : ∀ z ∈ ws, On z.2.1 z.2.2) (hv : PV K H v false) (h2 : us.length + ws.length ≤ 900) : LnV K H (.ref a) false := by
  refine .inr ⟨⟨_, .tup h, fun _ => ⟨_, _, List.replicate us.length true ++ false :: List.replicate ws.length true, rfl, h, by simp; omega, by simp, fun i v' c e1 e2 => ?_, by simp⟩, fun z => absurd rfl z⟩, rfl⟩
  have good : ∀ {zs : List Zp} {j : Nat}, Pts K H zs → (∀ z ∈ zs, On z.2.1 z.2.2) → (refs zs)[j]? = some v' → (List.replicate zs.length true)[j]? = some c → PV K H v' c := by
    intro zs j hp ho f1 f2
    rw [List.getElem?_map] at f1
    obtain ⟨z, f3, rfl⟩ := Option.map_eq_some_iff.mp f1
    have hm := List.mem_of_getElem? f3
    rw [List.getElem?_replicate] at f2
    split at f2
    · injection f2 with f2
      subst f2
      exact .pt (hp z hm) (ho z hm)
    · cases f2
  by_cases q : i < us.length
  · rw [List.getElem?_append_left (by simpa using q)] at e1
    rw [List.getElem?_append_left (by simpa using q)] at e2
    exact good pu ou e1 e2
  · rw [List.getElem?_append_right (by simp; omega)] at e1
    rw [List.getElem?_append_right (by simp; omega)] at e2
    rw [List.length_map] at e1
    rw [List.length_replicate] at e2
    cases hi : i - us.length with
    | zero =>
      rw [hi] at e1 e2
      injection e1 with e1
      injection e2 with e2
      subst e1 e2
      exact hv
    | succ k =>
      rw [hi, List.getElem?_cons_succ] at e1 e2
      exact good pw ow e1 e2
end
/-- a point twice, one after the other -/
theorem dup_not {zs : List Zp} {k : Nat} {z : Zp} (h : zs[k]? = some z) : ¬ LnOk (zs.take k ++ z :: zs.drop k) := by
  rintro ⟨_, _, ne⟩
  have hk := (List.getElem?_eq_some_iff.mp h).1
  have lt : (zs.take k).length = k := by rw [List.length_take]; omega
  refine ne k z z ?_ ?_ ⟨rfl, rfl⟩
  · rw [List.getElem?_append_right (by omega), lt, Nat.sub_self]; rfl
  · rw [List.getElem?_append_right (by omega), lt, show k + 1 - k = 0 + 1 by omega, List.getElem?_cons_succ, List.getElem?_drop]
    exact h
theorem len_dup {zs : List Zp} {k : Nat} {z : Zp} (h : zs.length ≤ 900) : (zs.take k ++ z :: zs.drop k).length ≤ 1000 := by
  rw [List.length_append, List.length_cons, List.length_take, List.length_drop]
  omega
section
variable {K : PySem.W.Frag} {H H' : Hp} {a t : Addr} {zs ws : List Zp}
theorem LnAt.sub (h : LnAt K H t zs) (hw : ∀ z ∈ ws, z ∈ zs) (ht : SqT K H a (refs ws)) : LnAt K H a ws := ⟨ht, fun z hz => h.p z (hw z hz), fun z hz => h.on z (hw z hz)⟩
theorem LnAt.get (h : LnAt K H t zs) {z : Zp} (hz : z ∈ zs) : SqT K H z.1 [.int z.2.1, .int z.2.2] := h.p z hz
theorem mem_dup {k : Nat} {z : Zp} (h : zs[k]? = some z) : ∀ x ∈ zs.take k ++ z :: zs.drop k, x ∈ zs := by
  intro x hx
  rcases List.mem_append.mp hx with hx | hx
  · exact List.mem_of_mem_take hx
  · rcases List.mem_cons.mp hx with rfl | hx
    · exact List.mem_of_getElem? h
    · exact List.mem_of_mem_drop hx
end
theorem ltP_self (x y : Int) : ltP x y x y = false := decide_eq_false (by omega)
theorem ltP_not {ax ay bx dy : Int} (h : ltP ax ay bx dy = true) : ltP bx dy ax ay = false := by
  have := of_decide_eq_true h
  exact decide_eq_false (by omega)
def PVf (K : PySem.W.Frag) (H : Hp) (v : V) : Prop := PV K H v false
def LnVf (K : PySem.W.Frag) (H : Hp) (v : V) : Prop := LnV K H v false
/-! ## the lowest terms of equal fractions -/
theorem low_eq {n1 d1 n2 d2 : Int} (p1 : 0 < d1) (p2 : 0 < d2) (h : n1 * d2 = n2 * d1) : lowN n1 d1 = lowN n2 d2 ∧ lowD n1 d1 = lowD n2 d2 := by
  have L1 := low_ok (n := n1) (d := d1) (by omega)
  have L2 := low_ok (n := n2) (d := d2) (by omega)
  have a1 := low_le L1 L2 p1 p2 (Int.le_of_eq h)
  have a2 := low_le L2 L1 p2 p1 (Int.le_of_eq h.symm)
  generalize lowN n1 d1 = N1 at *
  generalize lowD n1 d1 = D1 at *
  generalize lowN n2 d2 = N2 at *
  generalize lowD n2 d2 = D2 at *
  obtain ⟨_, q1, c1⟩ := L1
  obtain ⟨_, q2, c2⟩ := L2
  have e : N1 * D2 = N2 * D1 := Int.le_antisymm a1 a2
  have en : N1.natAbs * D2.natAbs = N2.natAbs * D1.natAbs := by rw [← Int.natAbs_mul, ← Int.natAbs_mul, e]
  have d12 : D1.natAbs ∣ D2.natAbs := Nat.Coprime.dvd_of_dvd_mul_left (show Nat.Coprime D1.natAbs N1.natAbs by rw [Nat.Coprime, Nat.gcd_comm]; exact c1) ⟨N2.natAbs, by rw [en, Nat.mul_comm]⟩
  have d21 : D2.natAbs ∣ D1.natAbs := Nat.Coprime.dvd_of_dvd_mul_left (show Nat.Coprime D2.natAbs N2.natAbs by rw [Nat.Coprime, Nat.gcd_comm]; exact c2) ⟨N1.natAbs, by rw [← en, Nat.mul_comm]⟩
  have ed := Nat.dvd_antisymm d12 d21
  have eD : D1 = D2 := by omega
  subst eD
  exact ⟨Int.eq_of_mul_eq_mul_right (by omega) e, rfl⟩
theorem gap_scale (ux uy vx vy g n d : Int) : gapN ux uy vx vy (g * n) (g * d) = g * g * gapN ux uy vx vy n d := by unfold gapN; grind
/-- the gap by the foot in lowest terms -/
theorem gap_red {ux uy vx vy c s : Int} (hs : 0 < s) : lowN (gapN ux uy vx vy (lowN c s) (lowD c s)) (lowD c s * lowD c s) = lowN (gapN ux uy vx vy c s) (s * s) ∧ lowD (gapN ux uy vx vy (lowN c s) (lowD c s)) (lowD c s * lowD c s) = lowD (gapN ux uy vx vy c s) (s * s) := by
  obtain ⟨⟨g, hg, e1, e2⟩, q1, _⟩ := low_ok (n := c) (d := s) (by omega)
  refine low_eq (Int.mul_pos q1 q1) (Int.mul_pos hs hs) ?_
  generalize lowN c s = N at *
  generalize lowD c s = E at *
  subst e1 e2
  rw [gap_scale]
  generalize gapN ux uy vx vy N E = G
  grind
theorem clamp_flip {al s : Int} (hs : 0 < s) : clamp (s - al) s = s - clamp al s := by
  unfold clamp
  split <;> split <;> (try split) <;> (try split) <;> omega
def gS (px py ax ay bx dy : Int) : Int := sq (bx - ax) (dy - ay)
def gR (px py ax ay bx dy : Int) : Int := gapN (px - ax) (py - ay) (bx - ax) (dy - ay) (clamp (dot (px - ax) (py - ay) (bx - ax) (dy - ay)) (sq (bx - ax) (dy - ay))) (sq (bx - ax) (dy - ay))
def gN (px py ax ay bx dy : Int) : Int := lowN (gR px py ax ay bx dy) (sq (bx - ax) (dy - ay) * sq (bx - ax) (dy - ay))
def gD (px py ax ay bx dy : Int) : Int := lowD (gR px py ax ay bx dy) (sq (bx - ax) (dy - ay) * sq (bx - ax) (dy - ay))
theorem sq_flip (ax ay bx dy : Int) : sq (ax - bx) (ay - dy) = sq (bx - ax) (dy - ay) := by unfold sq; grind
theorem gR_flip {px py ax ay bx dy : Int} (h : 0 < sq (bx - ax) (dy - ay)) : gR px py bx dy ax ay = gR px py ax ay bx dy := by
  unfold gR
  rw [sq_flip]
  have e : dot (px - bx) (py - dy) (ax - bx) (ay - dy) = sq (bx - ax) (dy - ay) - dot (px - ax) (py - ay) (bx - ax) (dy - ay) := by unfold dot sq; grind
  rw [e, clamp_flip h]
  generalize clamp (dot (px - ax) (py - ay) (bx - ax) (dy - ay)) (sq (bx - ax) (dy - ay)) = n
  generalize sq (bx - ax) (dy - ay) = t
  unfold gapN
  grind
theorem gN_flip {px py ax ay bx dy : Int} (h : 0 < sq (bx - ax) (dy - ay)) : gN px py bx dy ax ay = gN px py ax ay bx dy ∧ gD px py bx dy ax ay = gD px py ax ay bx dy := by
  unfold gN gD
  rw [gR_flip h, sq_flip]
  exact ⟨rfl, rfl⟩
/-- the least at which a fraction is least -/
def bI (f : Nat → Int × Int) : Nat → Nat
  | 0 => 0
  | i + 1 => if (f i).1 * (f (bI f i)).2 < (f (bI f i)).1 * (f i).2 then i else bI f i
theorem bI_le (f : Nat → Int × Int) (n : Nat) : bI f (n + 1) ≤ n := by
  induction n with
  | zero => unfold bI bI; split <;> omega
  | succ n ih => rw [bI]; split <;> omega
theorem bI_one (f : Nat → Int × Int) : bI f 1 = 0 := Nat.le_zero.mp (bI_le f 0)
/-- the gap of the i-th edge -/
def gF (px py : Int) (zs : List Zp) (i : Nat) : Int × Int := match zs[i]?, zs[i + 1]? with
  | some u, some w => (gN px py u.2.1 u.2.2 w.2.1 w.2.2, gD px py u.2.1 u.2.2 w.2.1 w.2.2)
  | _, _ => (0, 1)
theorem gF_at {px py : Int} {zs : List Zp} {i : Nat} {u w : Zp} (h1 : zs[i]? = some u) (h2 : zs[i + 1]? = some w) : gF px py zs i = (gN px py u.2.1 u.2.2 w.2.1 w.2.2, gD px py u.2.1 u.2.2 w.2.1 w.2.2) := by
  unfold gF
  rw [h1, h2]
/-- a gap at an address -/
structure Gp (K : PySem.W.Frag) (H : Hp) (a : Addr) (f : Int × Int) : Prop where
  at_ : SqT K H a [.int f.1, .int f.2]
  pos : 0 < f.2
  one : Nat.gcd f.1.natAbs f.2.natAbs = 1
  bn : f.1.natAbs ≤ 2 ^ 71
  bd : f.2.natAbs ≤ 2 ^ 46
section
variable {K : PySem.W.Frag} {H H' : Hp} {a p s b D : Addr} {f : Int × Int} {o : HO}
theorem Gp.same (e : Same H H') (h : Gp K H a f) : Gp K H' a f := { h with at_ := tSame e h.at_ }
theorem Gp.but (e : But s H H') (S : Strm H s b) (h : Gp K H a f) : Gp K H' a f := { h with at_ := tButS e S h.at_ }
theorem Gp.put (q : ∃ ys, H D = some (.lst ys)) (h : Gp K H a f) : Gp K (upd H D o) a f := { h with at_ := tAt q h.at_ }
theorem Gp.fv (h : Gp K H a f) : FV K H (.ref a) true := FV.ok h.at_ h.pos h.one
/-- the bounds of a gap -/
theorem gap_ok {px py ax ay bx dy : Int} (op : On px py) (oa : On ax ay) (ob : On bx dy) (ne : ¬ (ax = bx ∧ ay = dy)) :
    0 < sq (bx - ax) (dy - ay) ∧ 0 < gD px py ax ay bx dy ∧ Nat.gcd (gN px py ax ay bx dy).natAbs (gD px py ax ay bx dy).natAbs = 1 ∧ (gN px py ax ay bx dy).natAbs ≤ 2 ^ 71 ∧ (gD px py ax ay bx dy).natAbs ≤ 2 ^ 46 := by
  have hs : 0 < sq (bx - ax) (dy - ay) := sq_pos (by omega)
  have vd := ob.d oa
  have ud := op.d oa
  have sl := sq_le vd
  have gl := gap_le ud vd (clamp_le (dot_le ud vd) sl) sl
  have L := low_ok (n := gR px py ax ay bx dy) (d := sq (bx - ax) (dy - ay) * sq (bx - ax) (dy - ay)) (mul_ne hs hs)
  exact ⟨hs, L.pos, L.one, Nat.le_trans L.leN gl.2.2, Nat.le_trans L.leD (mul_le sl sl)⟩
theorem Gp.edge {q : Addr} {px py : Int} {zs : List Zp} {i : Nat} {u w : Zp} (h1 : zs[i]? = some u) (h2 : zs[i + 1]? = some w) (op : On px py) (ou : On u.2.1 u.2.2) (ow : On w.2.1 w.2.2) (ne : ¬ (u.2.1 = w.2.1 ∧ u.2.2 = w.2.2))
    (hq : SqT K H q [.int (gN px py u.2.1 u.2.2 w.2.1 w.2.2), .int (gD px py u.2.1 u.2.2 w.2.1 w.2.2)]) : Gp K H q (gF px py zs i) := by
  obtain ⟨_, k1, k2, k3, k4⟩ := gap_ok op ou ow ne
  rw [gF_at h1 h2]
  exact ⟨hq, k1, k2, k3, k4⟩
theorem red_gap {px py ax ay bx dy : Int} (h : 0 < sq (bx - ax) (dy - ay)) :
    lowN (gapN (px - ax) (py - ay) (bx - ax) (dy - ay) (lowN (clamp (dot (px - ax) (py - ay) (bx - ax) (dy - ay)) (sq (bx - ax) (dy - ay))) (sq (bx - ax) (dy - ay))) (lowD (clamp (dot (px - ax) (py - ay) (bx - ax) (dy - ay)) (sq (bx - ax) (dy - ay))) (sq (bx - ax) (dy - ay)))) (lowD (clamp (dot (px - ax) (py - ay) (bx - ax) (dy - ay)) (sq (bx - ax) (dy - ay))) (sq (bx - ax) (dy - ay)) * lowD (clamp (dot (px - ax) (py - ay) (bx - ax) (dy - ay)) (sq (bx - ax) (dy - ay))) (sq (bx - ax) (dy - ay))) = gN px py ax ay bx dy ∧
    lowD (gapN (px - ax) (py - ay) (bx - ax) (dy - ay) (lowN (clamp (dot (px - ax) (py - ay) (bx - ax) (dy - ay)) (sq (bx - ax) (dy - ay))) (sq (bx - ax) (dy - ay))) (lowD (clamp (dot (px - ax) (py - ay) (bx - ax) (dy - ay)) (sq (bx - ax) (dy - ay))) (sq (bx - ax) (dy - ay)))) (lowD (clamp (dot (px - ax) (py - ay) (bx - ax) (dy - ay)) (sq (bx - ax) (dy - ay))) (sq (bx - ax) (dy - ay)) * lowD (clamp (dot (px - ax) (py - ay) (bx - ax) (dy - ay)) (sq (bx - ax) (dy - ay))) (sq (bx - ax) (dy - ay))) = gD px py ax ay bx dy := gap_red h
/-- the edge between two points, in either order -/
def EdgeAt (K : PySem.W.Frag) (H : Hp) (g : Addr) (u w : Zp) : Prop := SegAt K H g u.1 w.1 u.2.1 u.2.2 w.2.1 w.2.2 ∨ SegAt K H g w.1 u.1 w.2.1 w.2.2 u.2.1 u.2.2
theorem EdgeAt.same {g : Addr} {u w : Zp} (e : Same H H') (h : EdgeAt K H g u w) : EdgeAt K H' g u w := h.imp (fun h => h.same e) fun h => h.same e
theorem SegAt.put {K : PySem.W.Frag} {H : Hp} {D g a c : Addr} {ax ay bx dy : Int} {o : HO} (q : ∃ ys, H D = some (.lst ys)) (h : SegAt K H g a c ax ay bx dy) : SegAt K (upd H D o) g a c ax ay bx dy := { h with g := tAt q h.g, a := tAt q h.a, c := tAt q h.c }
theorem EdgeAt.put {g : Addr} {u w : Zp} (q : ∃ ys, H D = some (.lst ys)) (h : EdgeAt K H g u w) : EdgeAt K (upd H D o) g u w := h.imp (fun h => h.put q) fun h => h.put q
/-- of two different points one comes first -/
theorem ltP_or {ax ay bx dy : Int} (h : ¬ (ax = bx ∧ ay = dy)) (g : ltP ax ay bx dy = false) : ltP bx dy ax ay = true := by
  have := of_decide_eq_false g
  exact decide_eq_true (by omega)
/-- x is a value of which is_segment is b -/
def SgV (K : PySem.W.Frag) (H : Hp) (x : V) (b : Bool) : Prop := ∃ n, Ty K H x n ∧ (n = "tuple" → ∃ (g : Addr) (xs : List V), x = .ref g ∧ SqT K H g xs ∧ ((xs.length ≠ 2 ∧ b = false) ∨
  ∃ u v c d, xs = [u, v] ∧ PV K H u c ∧ PV K H v d ∧ ((c && d) = false ∧ b = false ∨ c = true ∧ d = true ∧ ∃ (i j : Addr) (ax ay bx dy : Int), u = .ref i ∧ v = .ref j ∧ SqT K H i [.int ax, .int ay] ∧ SqT K H j [.int bx, .int dy] ∧ On ax ay ∧ On bx dy ∧ b = ltP ax ay bx dy))) ∧ (n ≠ "tuple" → b = false)
theorem SgV.no {x : V} {n : String} (h : Ty K H x n) (hn : n ≠ "tuple") : SgV K H x false := ⟨n, h, fun q => absurd q hn, fun _ => rfl⟩
theorem SgV.len {g : Addr} {xs : List V} (h : SqT K H g xs) (hn : xs.length ≠ 2) : SgV K H (.ref g) false := ⟨_, .tup h, fun _ => ⟨g, xs, rfl, h, .inl ⟨hn, rfl⟩⟩, fun z => absurd rfl z⟩
theorem SgV.two {g i j : Addr} {ax ay bx dy : Int} {b : Bool} (h : SqT K H g [.ref i, .ref j]) (hi : SqT K H i [.int ax, .int ay]) (hj : SqT K H j [.int bx, .int dy]) (oa : On ax ay) (oc : On bx dy) (e : ltP ax ay bx dy = b) : SgV K H (.ref g) b :=
  ⟨_, .tup h, fun _ => ⟨g, _, rfl, h, .inr ⟨_, _, true, true, rfl, .pt hi oa, .pt hj oc, .inr ⟨rfl, rfl, i, j, ax, ay, bx, dy, rfl, rfl, hi, hj, oa, oc, e.symm⟩⟩⟩, fun z => absurd rfl z⟩
theorem SgV.bad {g : Addr} {u v : V} {c d : Bool} (h : SqT K H g [u, v]) (hu : PV K H u c) (hv : PV K H v d) (e : (c && d) = false) : SgV K H (.ref g) false :=
  ⟨_, .tup h, fun _ => ⟨g, _, rfl, h, .inr ⟨_, _, c, d, rfl, hu, hv, .inl ⟨e, rfl⟩⟩⟩, fun z => absurd rfl z⟩
def SgVf (K : PySem.W.Frag) (H : Hp) (v : V) : Prop := SgV K H v false
end
end My

namespace My
open PySem L2
/-! the steps of a reading -/
local macro_rules | `(tactic| walk_at "t") => `(tactic| first
  | assumption
  | exact tHere
  | exact lHere
  | (refine tOver (by assumption) ?_; walk_at "t")
  | (refine lOver (by assumption) ?_; walk_at "t")
  | (refine tSame (by assumption) ?_; walk_at "t")
  | (refine tBut (by assumption) (by assumption) ?_; walk_at "t"))
local macro_rules | `(tactic| walk_at "ix") => `(tactic| first | exact at0 | exact at1 | exact at2 | exact at3 | rfl)
local macro_rules | `(tactic| walk_at "r1") => `(tactic| first
  | refine ⟨_, rfl, ?_⟩
  | refine ⟨_, _, rfl, rfl, ?_⟩
  | refine ⟨rfl, ?_⟩
  | refine ⟨_, _, _, _, rfl, rfl, (by walk_at "t"), (by walk_at "ix"), ?_⟩
  | refine ⟨small rfl, ?_⟩)
local macro_rules | `(tactic| walk_at "r") => `(tactic| repeat walk_at "r1")

def top (i : Nat) : Stmt := PySem.Challenge.pw_trueatlas_k06_lines_and_segments.main.body.getD i (.Pass ⟨0, 0, 0, 0⟩)
abbrev s_is_whole : Stmt := (top 5)
abbrev N_is_whole : List Str := ["value"]
theorem sc_is_whole : FnScope N_is_whole ["value"] (defScope s_is_whole) := ⟨rfl, rfl, rfl, by decide +kernel, rfl, by decide +kernel, by decide +kernel⟩

abbrev s_is_pair : Stmt := (top 6)
abbrev N_is_pair : List Str := ["value"]
theorem sc_is_pair : FnScope N_is_pair ["value"] (defScope s_is_pair) := ⟨rfl, rfl, rfl, by decide +kernel, rfl, by decide +kernel, by decide +kernel⟩

abbrev s_need : Stmt := (top 7)
abbrev N_need : List Str := ["holds", "name"]
theorem sc_need : FnScope N_need ["holds", "name"] (defScope s_need) := ⟨rfl, rfl, rfl, by decide +kernel, rfl, by decide +kernel, by decide +kernel⟩

abbrev s_lowest : Stmt := (top 9)
abbrev N_lowest : List Str := ["n", "d", "common"]
theorem sc_lowest : FnScope N_lowest ["n", "d"] (defScope s_lowest) := ⟨rfl, rfl, rfl, by decide +kernel, rfl, by decide +kernel, by decide +kernel⟩

abbrev s_is_fraction : Stmt := (top 10)
abbrev N_is_fraction : List Str := ["value", "n", "d"]
theorem sc_is_fraction : FnScope N_is_fraction ["value"] (defScope s_is_fraction) := ⟨rfl, rfl, rfl, by decide +kernel, rfl, by decide +kernel, by decide +kernel⟩

abbrev s_need_both : Stmt := (top 11)
abbrev N_need_both : List Str := ["first", "second"]
theorem sc_need_both : FnScope N_need_both ["first", "second"] (defScope s_need_both) := ⟨rfl, rfl, rfl, by decide +kernel, rfl, by decide +kernel, by decide +kernel⟩

abbrev s_less : Stmt := (top 12)
abbrev N_less : List Str := ["first", "second"]
theorem sc_less : FnScope N_less ["first", "second"] (defScope s_less) := ⟨rfl, rfl, rfl, by decide +kernel, rfl, by decide +kernel, by decide +kernel⟩

abbrev s_is_coordinate : Stmt := (top 17)
abbrev N_is_coordinate : List Str := ["value"]
theorem sc_is_coordinate : FnScope N_is_coordinate ["value"] (defScope s_is_coordinate) := ⟨rfl, rfl, rfl, by decide +kernel, rfl, by decide +kernel, by decide +kernel⟩

abbrev s_is_point : Stmt := (top 18)
abbrev N_is_point : List Str := ["value"]
theorem sc_is_point : FnScope N_is_point ["value"] (defScope s_is_point) := ⟨rfl, rfl, rfl, by decide +kernel, rfl, by decide +kernel, by decide +kernel⟩

abbrev s_is_segment : Stmt := (top 19)
abbrev N_is_segment : List Str := ["value"]
theorem sc_is_segment : FnScope N_is_segment ["value"] (defScope s_is_segment) := ⟨rfl, rfl, rfl, by decide +kernel, rfl, by decide +kernel, by decide +kernel⟩

abbrev s_are_points : Stmt := (top 20)
abbrev N_are_points : List Str := ["value", "least", "most", "p"]
theorem sc_are_points : FnScope N_are_points ["value", "least", "most"] (defScope s_are_points) := ⟨rfl, rfl, rfl, by decide +kernel, rfl, by decide +kernel, by decide +kernel⟩

abbrev s_is_line : Stmt := (top 21)
abbrev N_is_line : List Str := ["value", "p", "q"]
theorem sc_is_line : FnScope N_is_line ["value"] (defScope s_is_line) := ⟨rfl, rfl, rfl, by decide +kernel, rfl, by decide +kernel, by decide +kernel⟩

abbrev s_joining : Stmt := (top 22)
abbrev N_joining : List Str := ["p", "q"]
theorem sc_joining : FnScope N_joining ["p", "q"] (defScope s_joining) := ⟨rfl, rfl, rfl, by decide +kernel, rfl, by decide +kernel, by decide +kernel⟩

abbrev s_edges_along : Stmt := (top 23)
abbrev N_edges_along : List Str := ["points", "p", "q"]
theorem sc_edges_along : FnScope N_edges_along ["points"] (defScope s_edges_along) := ⟨rfl, rfl, rfl, by decide +kernel, rfl, by decide +kernel, by decide +kernel⟩

abbrev s_foot_on : Stmt := (top 24)
abbrev N_foot_on : List Str := ["p", "segment", "a", "b", "wide", "high", "whole", "along"]
theorem sc_foot_on : FnScope N_foot_on ["p", "segment"] (defScope s_foot_on) := ⟨rfl, rfl, rfl, by decide +kernel, rfl, by decide +kernel, by decide +kernel⟩

abbrev s_gap_to : Stmt := (top 25)
abbrev N_gap_to : List Str := ["p", "segment", "a", "b", "n", "d", "x", "y"]
theorem sc_gap_to : FnScope N_gap_to ["p", "segment"] (defScope s_gap_to) := ⟨rfl, rfl, rfl, by decide +kernel, rfl, by decide +kernel, by decide +kernel⟩

abbrev s_nearest_edge : Stmt := (top 26)
abbrev N_nearest_edge : List Str := ["p", "line", "gaps", "best", "index", "gap", "edge"]
theorem sc_nearest_edge : FnScope N_nearest_edge ["p", "line"] (defScope s_nearest_edge) := ⟨rfl, rfl, rfl, by decide +kernel, rfl, by decide +kernel, by decide +kernel⟩

abbrev s__law_stream : Stmt := (top 28)
abbrev N__law_stream : List Str := ["script"]
theorem sc__law_stream : FnScope N__law_stream ["script"] (defScope s__law_stream) := ⟨rfl, rfl, rfl, by decide +kernel, rfl, by decide +kernel, by decide +kernel⟩

abbrev s__law_next : Stmt := (top 29)
abbrev N__law_next : List Str := ["stream", "many", "k", "cell", "digit"]
theorem sc__law_next : FnScope N__law_next ["stream", "many"] (defScope s__law_next) := ⟨rfl, rfl, rfl, by decide +kernel, rfl, by decide +kernel, by decide +kernel⟩

abbrev s__law_is_integer : Stmt := (top 30)
abbrev N__law_is_integer : List Str := ["actual"]
theorem sc__law_is_integer : FnScope N__law_is_integer ["actual"] (defScope s__law_is_integer) := ⟨rfl, rfl, rfl, by decide +kernel, rfl, by decide +kernel, by decide +kernel⟩

abbrev s__law_gcd : Stmt := (top 31)
abbrev N__law_gcd : List Str := ["a", "b", "k"]
theorem sc__law_gcd : FnScope N__law_gcd ["a", "b"] (defScope s__law_gcd) := ⟨rfl, rfl, rfl, by decide +kernel, rfl, by decide +kernel, by decide +kernel⟩

abbrev s__law_low : Stmt := (top 32)
abbrev N__law_low : List Str := ["n", "d", "shared"]
theorem sc__law_low : FnScope N__law_low ["n", "d"] (defScope s__law_low) := ⟨rfl, rfl, rfl, by decide +kernel, rfl, by decide +kernel, by decide +kernel⟩

abbrev s__law_equal : Stmt := (top 37)
abbrev N__law_equal : List Str := ["actual", "due", "at"]
theorem sc__law_equal : FnScope N__law_equal ["actual", "due"] (defScope s__law_equal) := ⟨rfl, rfl, rfl, by decide +kernel, rfl, by decide +kernel, by decide +kernel⟩

abbrev s__law_point : Stmt := (top 41)
abbrev N__law_point : List Str := ["stream", "far"]
theorem sc__law_point : FnScope N__law_point ["stream", "far"] (defScope s__law_point) := ⟨rfl, rfl, rfl, by decide +kernel, rfl, by decide +kernel, by decide +kernel⟩

abbrev s__law_far : Stmt := (top 42)
abbrev N__law_far : List Str := ["stream"]
theorem sc__law_far : FnScope N__law_far ["stream"] (defScope s__law_far) := ⟨rfl, rfl, rfl, by decide +kernel, rfl, by decide +kernel, by decide +kernel⟩

abbrev s__law_gap : Stmt := (top 44)
abbrev N__law_gap : List Str := ["p", "a", "b", "along", "size", "n", "x", "y"]
theorem sc__law_gap : FnScope N__law_gap ["p", "a", "b"] (defScope s__law_gap) := ⟨rfl, rfl, rfl, by decide +kernel, rfl, by decide +kernel, by decide +kernel⟩

abbrev s_law : Stmt := (top 45)
abbrev N_law : List Str := ["script", "stream", "far", "many", "line", "k", "p", "best", "at", "gap", "a", "b", "good", "no_point", "no_line", "no_segment", "told"]
theorem sc_law : FnScope N_law ["script"] (defScope s_law) := ⟨rfl, rfl, rfl, by decide +kernel, rfl, by decide +kernel, by decide +kernel⟩

structure Txt (K : PySem.W.Frag) (mg : Str → Option Value) where
  a_is_whole : Addr
  d_is_whole : FuncData
  F_is_whole : Fun K "is_whole" "is_whole" s_is_whole a_is_whole d_is_whole
  m_is_whole : mg "is_whole" = some (.ref a_is_whole)
  b_is_whole : Binds K d_is_whole ["value"] []
  a_is_pair : Addr
  d_is_pair : FuncData
  F_is_pair : Fun K "is_pair" "is_pair" s_is_pair a_is_pair d_is_pair
  m_is_pair : mg "is_pair" = some (.ref a_is_pair)
  b_is_pair : Binds K d_is_pair ["value"] []
  a_need : Addr
  d_need : FuncData
  F_need : Fun K "need" "need" s_need a_need d_need
  m_need : mg "need" = some (.ref a_need)
  b_need : Binds K d_need ["holds", "name"] []
  a_lowest : Addr
  d_lowest : FuncData
  F_lowest : Fun K "lowest" "lowest" s_lowest a_lowest d_lowest
  m_lowest : mg "lowest" = some (.ref a_lowest)
  b_lowest : Binds K d_lowest ["n", "d"] []
  a_is_fraction : Addr
  d_is_fraction : FuncData
  F_is_fraction : Fun K "is_fraction" "is_fraction" s_is_fraction a_is_fraction d_is_fraction
  m_is_fraction : mg "is_fraction" = some (.ref a_is_fraction)
  b_is_fraction : Binds K d_is_fraction ["value"] []
  a_need_both : Addr
  d_need_both : FuncData
  F_need_both : Fun K "need_both" "need_both" s_need_both a_need_both d_need_both
  m_need_both : mg "need_both" = some (.ref a_need_both)
  b_need_both : Binds K d_need_both ["first", "second"] []
  a_less : Addr
  d_less : FuncData
  F_less : Fun K "less" "less" s_less a_less d_less
  m_less : mg "less" = some (.ref a_less)
  b_less : Binds K d_less ["first", "second"] []
  a_is_coordinate : Addr
  d_is_coordinate : FuncData
  F_is_coordinate : Fun K "is_coordinate" "is_coordinate" s_is_coordinate a_is_coordinate d_is_coordinate
  m_is_coordinate : mg "is_coordinate" = some (.ref a_is_coordinate)
  b_is_coordinate : Binds K d_is_coordinate ["value"] []
  a_is_point : Addr
  d_is_point : FuncData
  F_is_point : Fun K "is_point" "is_point" s_is_point a_is_point d_is_point
  m_is_point : mg "is_point" = some (.ref a_is_point)
  b_is_point : Binds K d_is_point ["value"] []
  a_is_segment : Addr
  d_is_segment : FuncData
  F_is_segment : Fun K "is_segment" "is_segment" s_is_segment a_is_segment d_is_segment
  m_is_segment : mg "is_segment" = some (.ref a_is_segment)
  b_is_segment : Binds K d_is_segment ["value"] []
  a_are_points : Addr
  d_are_points : FuncData
  cc_are_points : Addr
  P_are_points : Addr
  F_are_points : FunT K "are_points" "are_points" s_are_points a_are_points d_are_points cc_are_points
  m_are_points : mg "are_points" = some (.ref a_are_points)
  b_are_points : Binds K d_are_points ["value", "least", "most"] []
  a_is_line : Addr
  d_is_line : FuncData
  cc_is_line : Addr
  P_is_line : Addr
  F_is_line : FunT K "is_line" "is_line" s_is_line a_is_line d_is_line cc_is_line
  m_is_line : mg "is_line" = some (.ref a_is_line)
  b_is_line : Binds K d_is_line ["value"] []
  a_joining : Addr
  d_joining : FuncData
  F_joining : Fun K "joining" "joining" s_joining a_joining d_joining
  m_joining : mg "joining" = some (.ref a_joining)
  b_joining : Binds K d_joining ["p", "q"] []
  a_edges_along : Addr
  d_edges_along : FuncData
  F_edges_along : Fun K "edges_along" "edges_along" s_edges_along a_edges_along d_edges_along
  m_edges_along : mg "edges_along" = some (.ref a_edges_along)
  b_edges_along : Binds K d_edges_along ["points"] []
  a_foot_on : Addr
  d_foot_on : FuncData
  F_foot_on : Fun K "foot_on" "foot_on" s_foot_on a_foot_on d_foot_on
  m_foot_on : mg "foot_on" = some (.ref a_foot_on)
  b_foot_on : Binds K d_foot_on ["p", "segment"] []
  a_gap_to : Addr
  d_gap_to : FuncData
  F_gap_to : Fun K "gap_to" "gap_to" s_gap_to a_gap_to d_gap_to
  m_gap_to : mg "gap_to" = some (.ref a_gap_to)
  b_gap_to : Binds K d_gap_to ["p", "segment"] []
  a_nearest_edge : Addr
  d_nearest_edge : FuncData
  F_nearest_edge : Fun K "nearest_edge" "nearest_edge" s_nearest_edge a_nearest_edge d_nearest_edge
  m_nearest_edge : mg "nearest_edge" = some (.ref a_nearest_edge)
  b_nearest_edge : Binds K d_nearest_edge ["p", "line"] []
  a__law_stream : Addr
  d__law_stream : FuncData
  F__law_stream : Fun K "_law_stream" "_law_stream" s__law_stream a__law_stream d__law_stream
  m__law_stream : mg "_law_stream" = some (.ref a__law_stream)
  b__law_stream : Binds K d__law_stream ["script"] []
  a__law_next : Addr
  d__law_next : FuncData
  F__law_next : Fun K "_law_next" "_law_next" s__law_next a__law_next d__law_next
  m__law_next : mg "_law_next" = some (.ref a__law_next)
  b__law_next : Binds K d__law_next ["stream", "many"] []
  a__law_is_integer : Addr
  d__law_is_integer : FuncData
  F__law_is_integer : Fun K "_law_is_integer" "_law_is_integer" s__law_is_integer a__law_is_integer d__law_is_integer
  m__law_is_integer : mg "_law_is_integer" = some (.ref a__law_is_integer)
  b__law_is_integer : Binds K d__law_is_integer ["actual"] []
  a__law_gcd : Addr
  d__law_gcd : FuncData
  F__law_gcd : Fun K "_law_gcd" "_law_gcd" s__law_gcd a__law_gcd d__law_gcd
  m__law_gcd : mg "_law_gcd" = some (.ref a__law_gcd)
  b__law_gcd : Binds K d__law_gcd ["a", "b"] []
  a__law_low : Addr
  d__law_low : FuncData
  F__law_low : Fun K "_law_low" "_law_low" s__law_low a__law_low d__law_low
  m__law_low : mg "_law_low" = some (.ref a__law_low)
  b__law_low : Binds K d__law_low ["n", "d"] []
  a__law_equal : Addr
  d__law_equal : FuncData
  F__law_equal : Fun K "_law_equal" "_law_equal" s__law_equal a__law_equal d__law_equal
  m__law_equal : mg "_law_equal" = some (.ref a__law_equal)
  b__law_equal : Binds K d__law_equal ["actual", "due"] []
  a__law_point : Addr
  d__law_point : FuncData
  F__law_point : Fun K "_law_point" "_law_point" s__law_point a__law_point d__law_point
  m__law_point : mg "_law_point" = some (.ref a__law_point)
  b__law_point : Binds K d__law_point ["stream", "far"] []
  a__law_far : Addr
  d__law_far : FuncData
  F__law_far : Fun K "_law_far" "_law_far" s__law_far a__law_far d__law_far
  m__law_far : mg "_law_far" = some (.ref a__law_far)
  b__law_far : Binds K d__law_far ["stream"] []
  a__law_gap : Addr
  d__law_gap : FuncData
  F__law_gap : Fun K "_law_gap" "_law_gap" s__law_gap a__law_gap d__law_gap
  m__law_gap : mg "_law_gap" = some (.ref a__law_gap)
  b__law_gap : Binds K d__law_gap ["p", "a", "b"] []
  a_law : Addr
  d_law : FuncData
  F_law : Fun K "law" "law" s_law a_law d_law
  m_law : mg "law" = some (.ref a_law)
  b_law : Binds K d_law ["script"] []
  n_abs : mg "abs" = none
  n_all : mg "all" = none
  n_bool : mg "bool" = none
  n_enumerate : mg "enumerate" = none
  n_int : mg "int" = none
  n_isinstance : mg "isinstance" = none
  n_len : mg "len" = none
  n_list : mg "list" = none
  n_max : mg "max" = none
  n_min : mg "min" = none
  n_range : mg "range" = none
  n_str : mg "str" = none
  n_tuple : mg "tuple" = none
  n_zip : mg "zip" = none
  c_HIGHEST : ∃ t, mg "HIGHEST" = some (.int (1000) t)
  c_LOWEST : ∃ t, mg "LOWEST" = some (.int (-1000) t)
  c_MOST_OF_LINE : ∃ t, mg "MOST_OF_LINE" = some (.int (40) t)
  n_gcd : mg "gcd" = some (.builtin "math.gcd")
/-- the tables of the defs that hold generator expressions -/
def Txt.ts {K : PySem.W.Frag} {mg : Str → Option Value} (T : Txt K mg) : List Addr := [T.P_are_points, T.P_is_line]
structure TxtB {K : PySem.W.Frag} {mg : Str → Option Value} (T : Txt K mg) (base : Heap) (w : World) : Prop where
  t_are_points : GxR.TabB base mg T.cc_are_points T.P_are_points
  t_is_line : GxR.TabB base mg T.cc_is_line T.P_is_line

section
variable {P : Program} {w : World} {K : PySem.W.Frag} {mg : Str → Option Value} {base : Heap}


theorem ok_is_whole (T : Txt K mg) (TB : TxtB T base w) : FnOk P w K mg base CX0 1 T.a_is_whole T.d_is_whole ["value"] (fun vs H Q _ => ∃ x n, vs = [x] ∧ Ty K H x n ∧ Q (.bl (n == "int")) H) := by
  refine T.F_is_whole.ok sc_is_whole (fun vs H Q E h => ?_) (fun cdv A outer s H vs Q E hr h => ?_)
  · obtain ⟨x, n, rfl, hx, k⟩ := h
    rfl
  · obtain ⟨x, n, rfl, hx, k⟩ := h
    refine ⟨_, (pss_one (ps_ret (pe_and (pe_callB call_isi (by rfl) T.n_isinstance (by decide +kernel) (pa_cons (pv 0) (pa_cons (pe_bltn (v := .ty "int") (by rfl) T.n_int (by decide +kernel) rfl) pa_nil))) (pe_one (pe_not (pe_callB call_isi (by rfl) T.n_isinstance (by decide +kernel) (pa_cons (pv 0) (pa_cons (pe_bltn (v := .ty "bool") (by rfl) T.n_bool (by decide +kernel) rfl) pa_nil)))))))), ?_⟩
    refine ⟨_, rfl, ⟨_, _, _, _, _, rfl, .ty _, (hx).x, isaN (Ty.six hx) (by simp [My.six]), ⟨_, rfl, ?_⟩⟩⟩
    cases hx
    all_goals first | (refine ifTr (by decide) ?_) | (refine ifFa (by decide) ?_; exact k)
    · exact ⟨_, rfl, ⟨_, _, _, _, _, rfl, .ty _, ((Ty.bl _)).x, isaN (by simp [My.six]) (by simp [My.six]), ⟨_, rfl, k⟩⟩⟩
    · exact ⟨_, rfl, ⟨_, _, _, _, _, rfl, .ty _, ((Ty.int _)).x, isaN (by simp [My.six]) (by simp [My.six]), ⟨_, rfl, k⟩⟩⟩

theorem ok_is_pair (T : Txt K mg) (TB : TxtB T base w) : FnOk P w K mg base CX0 1 T.a_is_pair T.d_is_pair ["value"] (fun vs H Q _ => ∃ x n, vs = [x] ∧ Ty K H x n ∧ (n = "tuple" → ∃ a xs, x = .ref a ∧ SqT K H a xs ∧ Q (.bl (xs.length == 2)) H) ∧ (n ≠ "tuple" → Q (.bl false) H)) := by
  refine T.F_is_pair.ok sc_is_pair (fun vs H Q E h => ?_) (fun cdv A outer s H vs Q E hr h => ?_)
  · obtain ⟨x, n, rfl, hx, k1, k2⟩ := h
    rfl
  · obtain ⟨x, n, rfl, hx, k1, k2⟩ := h
    refine ⟨_, (pss_one (ps_ret (pe_and (pe_callB call_isi (by rfl) T.n_isinstance (by decide +kernel) (pa_cons (pv 0) (pa_cons (pe_bltn (v := .ty "tuple") (by rfl) T.n_tuple (by decide +kernel) rfl) pa_nil))) (pe_one (pe_cmpR op_eq (pe_callB call_len (by rfl) T.n_len (by decide +kernel) (pa_cons (pv 0) pa_nil)) pe_int (nomark _)))))), ?_⟩
    refine ⟨_, rfl, ⟨_, _, _, _, _, rfl, .ty _, (hx).x, isaN (Ty.six hx) (by simp [My.six]), ⟨_, rfl, ?_⟩⟩⟩
    by_cases e : n = "tuple"
    · subst e
      refine ifTr (by decide) ?_
      obtain ⟨a, xs, rfl, ht, k⟩ := k1 rfl
      refine ⟨_, rfl, _, _, rfl, .inr ⟨xs, ht, rfl⟩, rfl, ?_⟩
      have e : decide (V.int (xs.length : Int) = V.int 2) = (xs.length == 2) := by
        by_cases q : xs.length = 2
        · rw [q]; rfl
        · rw [beq_false_of_ne q]; exact decide_eq_false fun z => q (by injection z with z; omega)
      rw [e]
      exact k
    · refine ifFa ?_ (k2 e)
      cases hx <;> first | rfl | exact absurd rfl e

theorem ok_need (T : Txt K mg) (TB : TxtB T base w) : FnOk P w K mg base CX0 2 T.a_need T.d_need ["holds", "name"] (fun vs H Q _ => ∃ b x, vs = [.bl b, x] ∧ b = true ∧ Q .non H) := by
  refine T.F_need.ok sc_need (fun vs H Q E h => ?_) (fun cdv A outer s H vs Q E hr h => ?_)
  · obtain ⟨b, x, rfl, rfl, k⟩ := h
    rfl
  · obtain ⟨b, x, rfl, rfl, k⟩ := h
    refine ⟨_, (pss_one (ps_if (pt_not (pt_val (pv 0)))
        (pss_one ps_never)
        pss_nil)), ?_⟩
    exact ⟨_, rfl, _, rfl, iteF k⟩

theorem ok_lowest (T : Txt K mg) (TB : TxtB T base w) : FnOk P w K mg base CX0 1 T.a_lowest T.d_lowest ["n", "d"] (fun vs H Q _ => ∃ n d : Int, vs = [.int n, .int d] ∧ d ≠ 0 ∧ n.natAbs ≤ 2 ^ 200 ∧ d.natAbs ≤ 2 ^ 200 ∧ ∀ p, H p = none → Q (.ref p) (upd H p (.tup [.int (lowN n d), .int (lowD n d)]))) := by
  refine T.F_lowest.ok sc_lowest (fun vs H Q E h => ?_) (fun cdv A outer s H vs Q E hr h => ?_)
  · obtain ⟨n, d, rfl, d0, h1, h2, k⟩ := h
    rfl
  · obtain ⟨n, d, rfl, d0, h1, h2, k⟩ := h
    refine ⟨_, (pss_cons (ps_set (i := 2) sc_lowest.nd rfl (Or.inl rfl) (pe_callBfun cr_gcd (by rfl) T.n_gcd (pa_cons (pv 0) (pa_cons (pv 1) pa_nil))))
      (C8.pss_cut (ps_if (pt_cmpR op_lt (pv 1) pe_int (nomark _))
        (pss_one (ps_set (i := 2) sc_lowest.nd rfl (Or.inl rfl) (pe_un un_neg (pv 2))))
        pss_nil)
      (pss_one (ps_ret (pe_tup (pa_cons (pe_op op_fdivV (pv 0) (pv 2)) (pa_cons (pe_op op_fdivV (pv 1) (pv 2)) pa_nil))))))), ?_⟩
    refine ⟨_, rfl, _, rfl, _, _, rfl, ?_⟩
    have hb := Nat.le_trans (sgcd_le (n := n) d0) h2
    refine ⟨fun σ' H' => H' = H ∧ σ' = [some (.int n), some (.int d), some (.int (sgcd n d))], ?_, ?_⟩
    · refine ⟨_, rfl, _, _, rfl, rfl, _, rfl, ifD (fun e => ?_) (fun e => ?_)⟩
      · refine ⟨_, rfl, _, rfl, ?_⟩
        exact ⟨rfl, by rw [sgcd, if_pos e, Int.zero_sub]; rfl⟩
      · exact ⟨rfl, by rw [sgcd, if_neg e]; rfl⟩
    · rintro σ' H' ⟨rfl, rfl⟩
      exact ⟨_, rfl, _, rfl, _, _, rfl, rfl, ⟨sgcd_ne d0, pow200 hb⟩, _, rfl, _, rfl, _, _, rfl, rfl, ⟨sgcd_ne d0, pow200 hb⟩, small rfl, fun p hp => k p hp⟩

theorem ok_is_fraction (T : Txt K mg) (TB : TxtB T base w) : FnOk P w K mg base CX0 2 T.a_is_fraction T.d_is_fraction ["value"] (fun vs H Q _ => ∃ x b, vs = [x] ∧ FV K H x b ∧ Q (.bl b) H) := by
  refine T.F_is_fraction.ok sc_is_fraction (fun vs H Q E h => ?_) (fun cdv A outer s H vs Q E hr h => ?_)
  · obtain ⟨x, b, rfl, ⟨n, hx, h1, h2⟩, k⟩ := h
    rfl
  · obtain ⟨x, b, rfl, ⟨n, hx, h1, h2⟩, k⟩ := h
    refine ⟨_, (pss_cons (ps_if (pt_not (pt_val (pe_call (ok_is_pair T TB) (hr.mono (by omega)) rfl T.m_is_pair T.F_is_pair.kp T.b_is_pair .nil pass0 (pa_cons (pv 0) pa_nil))))
        (pss_one (ps_ret pe_bl))
        pss_nil)
      (pss_cons (ps_asg (pv 0) (pg_tup (by rfl) (pgs_cons (pg_name (i := 1) sc_is_fraction.nd rfl (Or.inl rfl)) (pgs_cons (pg_name (i := 2) sc_is_fraction.nd rfl (Or.inl rfl)) pgs_nil))))
      (pss_one (ps_ret (pe_and (pe_call (ok_is_whole T TB) (hr.mono (by omega)) rfl T.m_is_whole T.F_is_whole.kp T.b_is_whole .nil pass0 (pa_cons (pv 1) pa_nil)) (pe_and (pe_call (ok_is_whole T TB) (hr.mono (by omega)) rfl T.m_is_whole T.F_is_whole.kp T.b_is_whole .nil pass0 (pa_cons (pv 2) pa_nil)) (pe_and (pe_cmpR op_ge (pv 2) pe_int (nomark _)) (pe_one (pe_cmpR op_eq (pe_callBfun cr_gcd (by rfl) T.n_gcd (pa_cons (pv 1) (pa_cons (pv 2) pa_nil))) pe_int (nomark _)))))))))), ?_⟩
    refine ⟨_, rfl, _, _, rfl, hx, fun e => ?_, fun e => ?_⟩
    rotate_left
    · rw [h2 e] at k
      exact ⟨_, rfl, k⟩
    obtain ⟨a, xs, rfl, ht, hm, rfl⟩ := h1 e
    refine ⟨a, xs, rfl, ht, _, rfl, ?_⟩
    match xs, ht, hm, k with
    | [], _, _, k => exact k
    | [_], _, _, k => rw [fracB_ne (by simp)] at k; exact k
    | _ :: _ :: _ :: r, _, _, k =>
      rw [fracB_ne (by simp)] at k
      refine ifTr ?_ k
      rw [show ((List.length (_ :: _ :: _ :: r)) == 2) = false from beq_false_of_ne (by simp)]
      rfl
    | [u, v], ht, hm, k =>
      refine ⟨_, rfl, _, _, rfl, ht, rfl, _, _, rfl, _, _, rfl, rfl, ?_⟩
      obtain ⟨m1, t1⟩ := hm u (by simp)
      obtain ⟨m2, t2⟩ := hm v (by simp)
      refine ⟨_, rfl, _, _, rfl, t1, _, rfl, ?_⟩
      cases t1
      all_goals first | (refine ifTr (by decide) ?_) | (refine ifFa (by decide) ?_; exact k)
      refine ⟨_, rfl, _, _, rfl, t2, _, rfl, ?_⟩
      cases t2
      all_goals first | (refine ifTr (by decide) ?_) | (refine ifFa (by decide) ?_; exact k)
      rename_i n d
      have k : Q (.bl (decide (1 ≤ d) && (Nat.gcd n.natAbs d.natAbs == 1))) H := k
      refine ⟨_, rfl, _, _, rfl, rfl, _, rfl, ifD (fun c => ?_) (fun c => ?_)⟩
      · refine ⟨_, rfl, _, rfl, _, _, rfl, rfl, ?_⟩
        rw [decide_eq_true c, Bool.true_and] at k
        have e2 : decide (V.int ((Nat.gcd n.natAbs d.natAbs : Nat) : Int) = V.int 1) = (Nat.gcd n.natAbs d.natAbs == 1) := by
          by_cases q : Nat.gcd n.natAbs d.natAbs = 1
          · rw [q]; rfl
          · rw [beq_false_of_ne q]; exact decide_eq_false fun z => q (by injection z with z; omega)
        rw [e2]
        exact k
      · rw [decide_eq_false c, Bool.false_and] at k
        exact k

theorem ok_need_both (T : Txt K mg) (TB : TxtB T base w) : FnOk P w K mg base CX0 3 T.a_need_both T.d_need_both ["first", "second"] (fun vs H Q _ => ∃ (a c : Addr) (f g : Int × Int), vs = [.ref a, .ref c] ∧ Gp K H a f ∧ Gp K H c g ∧ Q .non H) := by
  refine T.F_need_both.ok sc_need_both (fun vs H Q E h => ?_) (fun cdv A outer s H vs Q E hr h => ?_)
  · obtain ⟨a, c, f, g, rfl, ha, hc, k⟩ := h
    rfl
  · obtain ⟨a, c, f, g, rfl, ha, hc, k⟩ := h
    refine ⟨_, (pss_cons (ps_expr (pe_call (ok_need T TB) (hr.mono (by omega)) rfl T.m_need T.F_need.kp T.b_need .nil pass0 (pa_cons (pe_call (ok_is_fraction T TB) (hr.mono (by omega)) rfl T.m_is_fraction T.F_is_fraction.kp T.b_is_fraction .nil pass0 (pa_cons (pv 0) pa_nil)) (pa_cons pe_str pa_nil))))
      (pss_one (ps_expr (pe_call (ok_need T TB) (hr.mono (by omega)) rfl T.m_need T.F_need.kp T.b_need .nil pass0 (pa_cons (pe_call (ok_is_fraction T TB) (hr.mono (by omega)) rfl T.m_is_fraction T.F_is_fraction.kp T.b_is_fraction .nil pass0 (pa_cons (pv 1) pa_nil)) (pa_cons pe_str pa_nil)))))), ?_⟩
    exact ⟨_, rfl, _, _, rfl, ha.fv, _, _, rfl, rfl, _, rfl, _, _, rfl, hc.fv, _, _, rfl, rfl, k⟩

theorem ok_less (T : Txt K mg) (TB : TxtB T base w) : FnOk P w K mg base CX0 4 T.a_less T.d_less ["first", "second"] (fun vs H Q _ => ∃ (a c : Addr) (f g : Int × Int), vs = [.ref a, .ref c] ∧ Gp K H a f ∧ Gp K H c g ∧ Q (.bl (decide (f.1 * g.2 < g.1 * f.2))) H) := by
  refine T.F_less.ok sc_less (fun vs H Q E h => ?_) (fun cdv A outer s H vs Q E hr h => ?_)
  · obtain ⟨a, c, f, g, rfl, ha, hc, k⟩ := h
    rfl
  · obtain ⟨a, c, f, g, rfl, ha, hc, k⟩ := h
    refine ⟨_, (pss_cons (ps_expr (pe_call (ok_need_both T TB) (hr.mono (by omega)) rfl T.m_need_both T.F_need_both.kp T.b_need_both .nil pass0 (pa_cons (pv 0) (pa_cons (pv 1) pa_nil))))
      (pss_one (ps_ret (pe_cmpR op_lt (pe_op op_mulW (pe_ix (r := rIxT K) ix_tup (pv 0) pe_int (fun _ _ => rfl)) (pe_ix (r := rIxT K) ix_tup (pv 1) pe_int (fun _ _ => rfl))) (pe_op op_mulW (pe_ix (r := rIxT K) ix_tup (pv 1) pe_int (fun _ _ => rfl)) (pe_ix (r := rIxT K) ix_tup (pv 0) pe_int (fun _ _ => rfl))) (nomark _))))), ?_⟩
    exact ⟨_, rfl, _, rfl, _, _, _, _, rfl, ha, hc, _, rfl, _, _, _, _, rfl, rfl, ha.at_, at0, _, rfl, _, _, _, _, rfl, rfl, hc.at_, at1, _, _, rfl, rfl, wide ha.bn hc.bd, _, rfl, _, _, _, _, rfl, rfl, hc.at_, at0, _, rfl, _, _, _, _, rfl, rfl, ha.at_, at1, _, _, rfl, rfl, wide hc.bn ha.bd, _, _, rfl, rfl, k⟩

theorem ok_is_coordinate (T : Txt K mg) (TB : TxtB T base w) : FnOk P w K mg base CX0 2 T.a_is_coordinate T.d_is_coordinate ["value"] (fun vs H Q _ => ∃ x n, vs = [x] ∧ Ty K H x n ∧ Q (.bl (coordB x)) H) := by
  refine T.F_is_coordinate.ok sc_is_coordinate (fun vs H Q E h => ?_) (fun cdv A outer s H vs Q E hr h => ?_)
  · obtain ⟨x, n, rfl, hx, k⟩ := h
    rfl
  · obtain ⟨x, n, rfl, hx, k⟩ := h
    refine ⟨_, (pss_one (ps_ret (pe_and (pe_call (ok_is_whole T TB) (hr.mono (by omega)) rfl T.m_is_whole T.F_is_whole.kp T.b_is_whole .nil pass0 (pa_cons (pv 0) pa_nil)) (pe_one (pe_chain op_le op_le (pe_gI T.c_LOWEST) (pv 0) (pe_gI T.c_HIGHEST)))))), ?_⟩
    refine ⟨_, rfl, _, _, rfl, hx, ⟨_, rfl, ?_⟩⟩
    cases hx
    all_goals first | (refine ifTr (by decide) ?_) | (refine ifFa (by decide) ?_; exact k)
    rename_i i
    refine ⟨_, rfl, _, _, rfl, rfl, ⟨_, rfl, ?_⟩⟩
    refine ifB (fun e => ?_) (fun e => ?_)
    · refine ⟨_, _, rfl, rfl, ?_⟩
      rw [show coordB (.int i) = (decide (-1000 ≤ i) && decide (i ≤ 1000)) from rfl, e, Bool.true_and] at k
      exact k
    · rw [show coordB (.int i) = (decide (-1000 ≤ i) && decide (i ≤ 1000)) from rfl, e, Bool.false_and] at k
      exact k

theorem ok_is_point (T : Txt K mg) (TB : TxtB T base w) : FnOk P w K mg base CX0 3 T.a_is_point T.d_is_point ["value"] (fun vs H Q _ => ∃ x b, vs = [x] ∧ PV K H x b ∧ Q (.bl b) H) := by
  refine T.F_is_point.ok sc_is_point (fun vs H Q E h => ?_) (fun cdv A outer s H vs Q E hr h => ?_)
  · obtain ⟨x, b, rfl, ⟨n, hx, h1, h2⟩, k⟩ := h
    rfl
  · obtain ⟨x, b, rfl, ⟨n, hx, h1, h2⟩, k⟩ := h
    refine ⟨_, (pss_one (ps_ret (pe_and (pe_call (ok_is_pair T TB) (hr.mono (by omega)) rfl T.m_is_pair T.F_is_pair.kp T.b_is_pair .nil pass0 (pa_cons (pv 0) pa_nil)) (pe_and (pe_call (ok_is_coordinate T TB) (hr.mono (by omega)) rfl T.m_is_coordinate T.F_is_coordinate.kp T.b_is_coordinate .nil pass0 (pa_cons (pe_ix (r := rIxT K) ix_tup (pv 0) pe_int (fun _ _ => rfl)) pa_nil)) (pe_one (pe_call (ok_is_coordinate T TB) (hr.mono (by omega)) rfl T.m_is_coordinate T.F_is_coordinate.kp T.b_is_coordinate .nil pass0 (pa_cons (pe_ix (r := rIxT K) ix_tup (pv 0) pe_int (fun _ _ => rfl)) pa_nil))))))), ?_⟩
    have k1 : n = "tuple" → ∃ a xs, x = .ref a ∧ SqT K H a xs ∧ (∀ v ∈ xs, ∃ m, Ty K H v m) ∧ Q (.bl (pointB xs)) H := fun e => by
      obtain ⟨a, xs, e1, e2, e3, e4⟩ := h1 e
      exact ⟨a, xs, e1, e2, e3, by rw [← e4]; exact k⟩
    have k2 : n ≠ "tuple" → Q (.bl false) H := fun e => by rw [← h2 e]; exact k
    refine ⟨_, rfl, _, _, rfl, hx, fun e => ?_, fun e => ?_⟩
    · obtain ⟨a, xs, rfl, ht, hm, k⟩ := k1 e
      refine ⟨a, xs, rfl, ht, _, rfl, ?_⟩
      match xs, ht, hm, k with
      | [], _, _, k => exact iteF k
      | [_], _, _, k => exact iteF k
      | [u, v], ht, hm, k =>
        refine iteT ?_
        obtain ⟨m1, t1⟩ := hm u (by simp)
        obtain ⟨m2, t2⟩ := hm v (by simp)
        refine ⟨_, rfl, _, _, _, _, rfl, rfl, ht, at0, _, _, rfl, t1, _, rfl, ?_⟩
        rw [show pointB [u, v] = (coordB u && coordB v) from rfl] at k
        refine ifB (fun e => ?_) (fun e => ?_)
        · refine ⟨_, rfl, _, _, _, _, rfl, rfl, ht, at1, _, _, rfl, t2, ?_⟩
          rw [e, Bool.true_and] at k
          exact k
        · rw [e, Bool.false_and] at k
          exact k
      | _ :: _ :: _ :: r, _, _, k =>
        refine ifFa ?_ k
        exact beq_false_of_ne (by simp)
    · exact ⟨_, rfl, iteF (k2 e)⟩

theorem ok_is_segment (T : Txt K mg) (TB : TxtB T base w) : FnOk P w K mg base CX0 4 T.a_is_segment T.d_is_segment ["value"] (fun vs H Q _ => ∃ x b, vs = [x] ∧ SgV K H x b ∧ Q (.bl b) H) := by
  refine T.F_is_segment.ok sc_is_segment (fun vs H Q E h => ?_) (fun cdv A outer s H vs Q E hr h => ?_)
  · obtain ⟨x, b, rfl, ⟨n, hx, h1, h2⟩, k⟩ := h
    rfl
  · obtain ⟨x, b, rfl, ⟨n, hx, h1, h2⟩, k⟩ := h
    refine ⟨_, (pss_one (ps_ret (pe_and (pe_call (ok_is_pair T TB) (hr.mono (by omega)) rfl T.m_is_pair T.F_is_pair.kp T.b_is_pair .nil pass0 (pa_cons (pv 0) pa_nil)) (pe_and (pe_call (ok_is_point T TB) (hr.mono (by omega)) rfl T.m_is_point T.F_is_point.kp T.b_is_point .nil pass0 (pa_cons (pe_ix (r := rIxT K) ix_tup (pv 0) pe_int (fun _ _ => rfl)) pa_nil)) (pe_and (pe_call (ok_is_point T TB) (hr.mono (by omega)) rfl T.m_is_point T.F_is_point.kp T.b_is_point .nil pass0 (pa_cons (pe_ix (r := rIxT K) ix_tup (pv 0) pe_int (fun _ _ => rfl)) pa_nil)) (pe_one (pe_cmpR (op_ltP hr.units0) (pe_ix (r := rIxT K) ix_tup (pv 0) pe_int (fun _ _ => rfl)) (pe_ix (r := rIxT K) ix_tup (pv 0) pe_int (fun _ _ => rfl)) (nomark _)))))))), ?_⟩
    refine ⟨_, rfl, _, _, rfl, hx, fun e => ?_, fun e => ?_⟩
    rotate_left
    · rw [h2 e] at k
      exact ⟨_, rfl, k⟩
    obtain ⟨g, xs, rfl, ht, hc⟩ := h1 e
    refine ⟨g, xs, rfl, ht, _, rfl, ?_⟩
    rcases hc with ⟨hl, rfl⟩ | ⟨u, v, c, d, rfl, hu, hv, hc⟩
    · rw [show (xs.length == 2) = false from beq_false_of_ne hl]
      exact iteF k
    refine iteT ?_
    refine ⟨_, rfl, _, _, _, _, rfl, rfl, ht, at0, _, _, rfl, hu, _, rfl, ?_⟩
    rcases hc with ⟨hcd, rfl⟩ | ⟨rfl, rfl, i, j, ax, ay, bx, dy, rfl, rfl, hi, hj, oa, oc, rfl⟩
    · refine ifB (fun e1 => ?_) (fun e1 => ?_)
      · refine ⟨_, rfl, _, _, _, _, rfl, rfl, ht, at1, _, _, rfl, hv, _, rfl, ?_⟩
        have e2 : d = false := by rw [e1] at hcd; exact hcd
        rw [e2]
        exact iteF k
      · exact k
    refine iteT ?_
    refine ⟨_, rfl, _, _, _, _, rfl, rfl, ht, at1, _, _, rfl, hv, _, rfl, iteT ?_⟩
    exact ⟨_, rfl, _, _, _, _, rfl, rfl, ht, at0, _, rfl, _, _, _, _, rfl, rfl, ht, at1, _, _, _, _, _, _, rfl, rfl, hi, hj, k⟩

theorem ok_are_points (T : Txt K mg) (TB : TxtB T base w) : FnOk P w K mg base CX0 7 T.a_are_points T.d_are_points ["value", "least", "most"] (fun vs H Q _ => ∃ x b lo hi, vs = [x, .int lo, .int hi] ∧ AV K lo hi H x b ∧ Tbs T.ts H ∧ ∀ H', Same H H' → Q (.bl b) H') := by
  refine T.F_are_points.ok sc_are_points (fun vs H Q E h => ?_) (fun A outer s H vs Q E hr h => ?_)
  · obtain ⟨x, b, lo, hi, rfl, ⟨n, hx, h1, h2⟩, tb, k⟩ := h
    rfl
  · obtain ⟨x, b, lo, hi, rfl, ⟨n, hx, h1, h2⟩, tb, k⟩ := h
    refine ⟨_, (pss_one (ps_ret (pe_and (pe_callB call_isi (by rfl) T.n_isinstance (by decide +kernel) (pa_cons (pv 0) (pa_cons (pe_bltn (v := .ty "tuple") (by rfl) T.n_tuple (by decide +kernel) rfl) pa_nil))) (pe_and (pe_chain op_le op_le (pv 1) (pe_callB call_len (by rfl) T.n_len (by decide +kernel) (pa_cons (pv 0) pa_nil)) (pv 2)) (pe_one (Gx.pe_gen false (own := [("p", 3)]) (g := gName 3) (tt := tYes) (x := "p") (k := 3) rfl (hr.mono (by omega)) rfl sc_are_points.nd rfl T.n_all TB.t_are_points rfl (Gx.genS_by rfl rfl (by decide +kernel) rfl rfl (by rfl)) (blkOk_by (own := [("p", 3)]) (N := N_are_points) (sc := defScope s_are_points) (by decide +kernel)) (pi_tup (pv 0)) (fun _ _ _ _ _ _ _ hB => (pg_name (i := 3) sc_are_points.nd rfl (Or.inl rfl))) (fun _ _ _ _ _ _ _ hB => pts_nil) (fun _ _ _ _ _ _ _ hB => (pe_call (ok_is_point T TB) (hB.mono (by omega)) rfl T.m_is_point T.F_is_point.kp T.b_is_point .nil pass0 (pa_cons (pv 3) pa_nil))) (fun _ => rfl))))))), ?_⟩
    refine ⟨_, rfl, _, _, _, _, _, rfl, .ty _, hx.x, isaN hx.six (by simp [My.six]), _, rfl, ?_⟩
    by_cases e : n = "tuple"
    rotate_left
    · rw [h2 e] at k
      refine ifFa ?_ (k _ (Same.refl _))
      cases hx <;> first | rfl | exact absurd rfl e
    subst e
    refine ifTr (by decide) ?_
    obtain ⟨a, xs, bs, rfl, ht, hl, hb, hr, rfl⟩ := h1 rfl
    refine ⟨_, rfl, _, rfl, _, _, rfl, .inr ⟨_, ht, rfl⟩, _, _, rfl, rfl, _, rfl, ?_⟩
    refine ifB (fun e1 => ?_) (fun e1 => ?_)
    rotate_left
    · have k := k _ (Same.refl _)
      rw [e1, Bool.false_and, Bool.false_and] at k
      exact ⟨_, rfl, iteF k⟩
    refine ⟨_, rfl, _, _, rfl, rfl, _, rfl, ?_⟩
    refine ifB (fun e2 => ?_) (fun e2 => ?_)
    rotate_left
    · have k := k _ (Same.refl _)
      rw [e2, Bool.and_false, Bool.false_and] at k
      exact k
    have kq : ∀ H', Same H H' → Q (.bl (bs.all id)) H' := fun H' s => by
      have := k H' s
      rw [e1, e2, Bool.true_and, Bool.true_and] at this
      exact this
    refine ⟨_, rfl, _, rfl, ⟨_, ht⟩, tb _ (by simp [Txt.ts]), fun H2 g2 => ?_⟩
    have s2 := same_tab (tb _ (by simp [Txt.ts])) g2
    refine Gx.gen_walk walk_tup (fun i H' => Same H H' ∧ ∀ j c, j < i → bs[j]? = some c → c = true) ⟨s2, fun j c h => absurd h (Nat.not_lt_zero _)⟩ (fun i H' h => tSame h.1 ht) ?_ ?_
    · rintro i x H3 H4 hi ⟨s3, ha⟩ ⟨rfl, hxi⟩
      refine ⟨rfl, yesI ?_⟩
      refine iteT ?_
      have hbi : bs[i]? = some bs[i] := List.getElem?_eq_getElem (by omega)
      refine ⟨_, rfl, _, _, rfl, (hr i x _ hxi hbi).same s3, _, rfl, ?_⟩
      by_cases q : bs[i] = false
      · refine (if_pos q).mpr ?_
        have := kq _ s3
        rw [show bs.all id = false from List.all_eq_false.mpr ⟨bs[i], List.mem_of_getElem? hbi, by rw [q]; decide⟩] at this
        exact this
      · refine (if_neg q).mpr ⟨s3, fun j c hj hc => ?_⟩
        by_cases z : j = i
        · subst z
          rw [hbi] at hc
          cases hc
          cases w : bs[j] with
          | true => rfl
          | false => exact absurd w q
        · exact ha j c (by omega) hc
    · rintro H3 ⟨s3, ha⟩
      have := kq _ s3
      rw [show bs.all id = true from all_get.mpr fun i c h => by have q := (List.getElem?_eq_some_iff.mp h).1; exact ha i c (by omega) h] at this
      exact this

theorem ok_is_line (T : Txt K mg) (TB : TxtB T base w) : FnOk P w K mg base CX0 11 T.a_is_line T.d_is_line ["value"] (fun vs H Q _ => ∃ x b, vs = [x] ∧ LnV K H x b ∧ Tbs T.ts H ∧ ∀ H', Same H H' → Q (.bl b) H') := by
  refine T.F_is_line.ok sc_is_line (fun vs H Q E h => ?_) (fun A outer s H vs Q E hr h => ?_)
  · obtain ⟨x, b, rfl, hx, tb, k⟩ := h
    rfl
  · obtain ⟨x, b, rfl, hx, tb, k⟩ := h
    refine ⟨_, (pss_one (ps_ret (pe_and (pe_call (ok_are_points T TB) (hr.mono (by omega)) rfl T.m_are_points T.F_are_points.kp T.b_are_points .nil pass0 (pa_cons (pv 0) (pa_cons pe_int (pa_cons (pe_gI T.c_MOST_OF_LINE) pa_nil)))) (pe_one (Gx.pe_gen false (own := [("p", 1), ("q", 2)]) (g := gTup K 2 (gCons (gName 1) (gCons (gName 2) gNil))) (tt := tYes) (x := "p") (k := 0) rfl (hr.mono (by omega)) rfl sc_is_line.nd rfl T.n_all TB.t_is_line rfl (Gx.genS_by rfl rfl (by decide +kernel) rfl rfl (by rfl)) (blkOk_by (own := [("p", 1), ("q", 2)]) (N := N_is_line) (sc := defScope s_is_line) (by decide +kernel)) (RZ.pi_zipA rfl T.n_zip (pa_cons (pv 0) (pa_cons (pe_slice sl_tupA (pv 0) (po_some pe_int) po_none) pa_nil))) (fun _ _ _ _ _ _ _ hB => (pg_tup (by rfl) (pgs_cons (pg_name (i := 1) sc_is_line.nd rfl (Or.inl rfl)) (pgs_cons (pg_name (i := 2) sc_is_line.nd rfl (Or.inl rfl)) pgs_nil)))) (fun _ _ _ _ _ _ _ hB => pts_nil) (fun _ _ _ _ _ _ _ hB => (pe_cmpR (op_neK (K := K) rfl hB.units) (pv 1) (pv 2) (nomark _))) (fun _ => rfl)))))), ?_⟩
    rcases hx with ⟨a, zs, rfl, hz, hl, hb⟩ | ⟨hav, rfl⟩
    rotate_left
    · exact ⟨_, rfl, _, _, _, _, rfl, hav, tb, fun H1 s1 => ⟨_, rfl, k H1 s1⟩⟩
    refine ⟨_, rfl, _, _, _, _, rfl, hz.av hl, tb, fun H1 s1 => ⟨_, rfl, ?_⟩⟩
    refine ifB (fun e1 => ?_) (fun e1 => ?_)
    rotate_left
    · have e2 : b = false := by
        cases b with
        | false => rfl
        | true =>
          obtain ⟨l1, l2, _⟩ := hb.mp rfl
          rw [decide_eq_true (by omega), decide_eq_true (by omega)] at e1
          cases e1
      have := k H1 s1
      rw [e2] at this
      exact this
    obtain ⟨l1, l2⟩ := Bool.and_eq_true _ _ ▸ e1
    have l1 := of_decide_eq_true l1
    have l2 := of_decide_eq_true l2
    refine ⟨_, rfl, _, rfl, _, rfl, ?_⟩
    refine noPart (slA_of (tSame s1 hz.t) fun q H2 s2 hq => ?_)
    rw [show ((1 : Int)) = ((1 : Nat) : Int) from rfl, cut_drop] at hq
    have s12 := s1.trans s2
    refine ⟨_, _, _, _, rfl, .inr ⟨tSame s12 hz.t, hq, (tb.same s12) _ (by simp [Txt.ts]), fun H3 g3 => ?_⟩⟩
    have s3 := same_tab ((tb.same s12) _ (by simp [Txt.ts])) g3
    refine Gx.gen_walk (walk_zipT (xs := refs zs) (ys := (refs zs).drop 1) rfl) (fun i H' => Same H2 H' ∧ ∀ (j : Nat) u w, j < i → zs[j]? = some u → zs[j + 1]? = some w → ¬ (u.2.1 = w.2.1 ∧ u.2.2 = w.2.2)) ⟨s3, fun j u w h => absurd h (Nat.not_lt_zero _)⟩ (fun i H' h => ⟨tSame h.1 (tSame s12 hz.t), tSame h.1 hq⟩) ?_ ?_
    · rintro i x H4 H5 hi ⟨s4, ha⟩ ⟨T1, x1, x2, rfl, hT, rfl, f1, f2⟩
      have f1 : (refs zs)[i]? = some x1 := f1
      have f2 : ((refs zs).drop 1)[i]? = some x2 := f2
      rw [List.getElem?_map] at f1
      rw [List.getElem?_drop, List.getElem?_map, Nat.add_comm] at f2
      obtain ⟨u, g1, rfl⟩ := Option.map_eq_some_iff.mp f1
      obtain ⟨w2, g2, rfl⟩ := Option.map_eq_some_iff.mp f2
      have s14 := s12.trans s4
      have hu := tOver (o := HO.tup [V.ref u.1, V.ref w2.1]) hT ((hz.p.same s14).get g1)
      have hw := tOver (o := HO.tup [V.ref u.1, V.ref w2.1]) hT ((hz.p.same s14).get g2)
      have s5 := same_then (o := HO.tup [V.ref u.1, V.ref w2.1]) s4 hT
      refine ⟨_, _, rfl, tHere, rfl, _, _, rfl, _, _, rfl, rfl, ⟨rfl, yesI ?_⟩⟩
      refine iteT ?_
      refine ⟨_, rfl, _, rfl, _, _, _, _, _, _, rfl, rfl, hu, hw, _, rfl, ?_⟩
      by_cases q3 : u.2.1 = w2.2.1 ∧ u.2.2 = w2.2.2
      · rw [decide_eq_true q3]
        refine (if_pos rfl).mpr ?_
        have e2 : b = false := by
          cases b with
          | false => rfl
          | true => exact absurd q3 ((hb.mp rfl).2.2 i u w2 g1 g2)
        have := k _ (s12.trans s5)
        rw [e2] at this
        exact this
      · rw [decide_eq_false q3]
        refine (if_neg (by decide)).mpr ⟨s5, fun j u' w' hj h1 h2 => ?_⟩
        by_cases e : j = i
        · subst e
          rw [g1] at h1
          rw [g2] at h2
          cases h1
          cases h2
          exact q3
        · exact ha j u' w' (by omega) h1 h2
    · rintro H4 ⟨s4, ha⟩
      have e2 : b = true := hb.mpr ⟨by omega, by omega, fun i u w h1 h2 => ha i u w (by
        have := (List.getElem?_eq_some_iff.mp h2).1
        rw [List.length_drop, List.length_map]
        omega) h1 h2⟩
      have := k _ (s12.trans s4)
      rw [e2] at this
      exact this

theorem ok_joining (T : Txt K mg) (TB : TxtB T base w) : FnOk P w K mg base CX0 1 T.a_joining T.d_joining ["p", "q"] (fun vs H Q _ => ∃ (u w : Zp), vs = [.ref u.1, .ref w.1] ∧ SqT K H u.1 [.int u.2.1, .int u.2.2] ∧ SqT K H w.1 [.int w.2.1, .int w.2.2] ∧ On u.2.1 u.2.2 ∧ On w.2.1 w.2.2 ∧ ¬ (u.2.1 = w.2.1 ∧ u.2.2 = w.2.2) ∧ ∀ g xs, H g = none → EdgeAt K (upd H g (.tup xs)) g u w → Q (.ref g) (upd H g (.tup xs))) := by
  refine T.F_joining.ok sc_joining (fun vs H Q E h => ?_) (fun cdv A outer s H vs Q E hr h => ?_)
  · obtain ⟨u, w, rfl, hu, hw, ou, ow, ne, k⟩ := h
    rfl
  · obtain ⟨u, w, rfl, hu, hw, ou, ow, ne, k⟩ := h
    refine ⟨_, (pss_one (ps_ret (pe_ifExp (pt_cmpR (op_ltP hr.units0) (pv 0) (pv 1) (nomark _)) (pe_tup (pa_cons (pv 0) (pa_cons (pv 1) pa_nil))) (pe_tup (pa_cons (pv 1) (pa_cons (pv 0) pa_nil)))))), ?_⟩
    refine ⟨_, rfl, _, rfl, _, _, _, _, _, _, rfl, rfl, hu, hw, _, rfl, ifB (fun e => ?_) (fun e => ?_)⟩
    · exact ⟨_, rfl, _, rfl, small rfl, fun g hg => k g _ hg (.inl ⟨tHere, tOver hg hu, tOver hg hw, ou, ow, e⟩)⟩
    · exact ⟨_, rfl, _, rfl, small rfl, fun g hg => k g _ hg (.inr ⟨tHere, tOver hg hw, tOver hg hu, ow, ou, ltP_or ne e⟩)⟩

theorem ok_edges_along (T : Txt K mg) (TB : TxtB T base w) : FnOk P w K mg base CX0 2 T.a_edges_along T.d_edges_along ["points"] (fun vs H Q _ => ∃ (a : Addr) (zs : List Zp), vs = [.ref a] ∧ LnAt K H a zs ∧ LnOk zs ∧ ∀ (l : Addr) (gs : List Addr) H', Same H H' → SqL K H' l (gs.map V.ref) → gs.length + 1 = zs.length → (∀ (i : Nat) g u w, gs[i]? = some g → zs[i]? = some u → zs[i + 1]? = some w → EdgeAt K H' g u w) → Q (.ref l) H') := by
  refine T.F_edges_along.ok sc_edges_along (fun vs H Q E h => ?_) (fun cdv A outer s H vs Q E hr h => ?_)
  · obtain ⟨a, zs, rfl, ha, ok, k⟩ := h
    rfl
  · obtain ⟨a, zs, rfl, ha, ok, k⟩ := h
    refine ⟨_, (pss_one (ps_ret (pe_lc (own := [("p", 1), ("q", 2)]) (g := gTup K 2 (gCons (gName 1) (gCons (gName 2) gNil))) (tt := tYes) rfl sc_edges_along.nd (RZ.pi_zipA rfl T.n_zip (pa_cons (pv 0) (pa_cons (pe_slice sl_tupA (pv 0) (po_some pe_int) po_none) pa_nil))) (blkOk_by (own := [("p", 1), ("q", 2)]) (N := N_edges_along) (sc := defScope s_edges_along) (by decide +kernel)) (fun _ _ _ _ _ => (pg_tup (by rfl) (pgs_cons (pg_name (i := 1) sc_edges_along.nd rfl (Or.inl rfl)) (pgs_cons (pg_name (i := 2) sc_edges_along.nd rfl (Or.inl rfl)) pgs_nil)))) (fun _ _ _ _ _ => pts_nil) (fun _ _ _ _ _ => (pe_call (ok_joining T TB) (hr.mono (by omega)) rfl T.m_joining T.F_joining.kp T.b_joining .nil pass0 (pa_cons (pv 1) (pa_cons (pv 2) pa_nil))))))), ?_⟩
    refine ⟨_, rfl, _, rfl, _, rfl, ?_⟩
    refine noPart (slA_of ha.t fun q H2 s2 hq => ?_)
    rw [show ((1 : Int)) = ((1 : Nat) : Int) from rfl, cut_drop] at hq
    have ha2 := ha.same s2
    obtain ⟨l1, l2, hne⟩ := ok
    refine ⟨_, _, _, _, rfl, .inr ⟨ha2.t, hq, fun D hD => lc_it (walk_zipT (xs := refs zs) (ys := (refs zs).drop 1) rfl) (fun i H' => ∃ gs : List Addr, Same H2 H' ∧ H' D = some (.lst (gs.map V.ref)) ∧ gs.length = i ∧ ∀ (j : Nat) g u w, gs[j]? = some g → zs[j]? = some u → zs[j + 1]? = some w → EdgeAt K H' g u w) ⟨[], same_new hD, upd_same, rfl, fun j g u w h => by cases h⟩ (fun i H' _ h => ?_) ?_ ?_⟩⟩
    · obtain ⟨_, s3, _⟩ := h
      exact ⟨tSame s3 ha2.t, tSame s3 hq⟩
    · rintro i x H4 H5 hi ⟨gs, s4, hD4, hl, hg⟩ ⟨T1, x1, x2, rfl, hT, rfl, f1, f2⟩
      have f1 : (refs zs)[i]? = some x1 := f1
      have f2 : ((refs zs).drop 1)[i]? = some x2 := f2
      rw [List.getElem?_map] at f1
      rw [List.getElem?_drop, List.getElem?_map, Nat.add_comm] at f2
      obtain ⟨u, g1, rfl⟩ := Option.map_eq_some_iff.mp f1
      obtain ⟨w2, g2, rfl⟩ := Option.map_eq_some_iff.mp f2
      have s5 := same_new (o := HO.tup [V.ref u.1, V.ref w2.1]) hT
      have s45 := s4.trans s5
      have ha5 := ha2.same s45
      refine ⟨_, _, rfl, tHere, rfl, _, _, rfl, _, _, rfl, rfl, ⟨rfl, yesI ?_⟩⟩
      refine iteT ?_
      refine ⟨_, rfl, _, rfl, u, w2, rfl, ha5.p.get g1, ha5.p.get g2, ha5.on _ (List.mem_of_getElem? g1), ha5.on _ (List.mem_of_getElem? g2), hne i u w2 g1 g2, fun g xs6 hg6 he6 => ?_⟩
      have s6 := same_new (o := HO.tup xs6) hg6
      have hD6 := s6.get (s5.get hD4)
      have hz : (refs zs).length = zs.length := List.length_map _
      refine ⟨_, hD6, by rw [List.length_map]; exact line_of (by omega), gs ++ [g], (s45.trans s6).put hD, by rw [upd_same, List.map_append]; rfl, by rw [List.length_append, hl]; rfl, fun j g' u' w' h1 h2 h3 => ?_⟩
      have put := fun {z : Addr} {a b : Zp} (h : EdgeAt K (upd (upd H4 T1 (.tup [V.ref u.1, V.ref w2.1])) g (.tup xs6)) z a b) => h.put (o := HO.lst (gs.map V.ref ++ [V.ref g])) ⟨_, hD6⟩
      by_cases e : j < gs.length
      · rw [List.getElem?_append_left e] at h1
        exact put (((hg j g' u' w' h1 h2 h3).same s5).same s6)
      · rw [List.getElem?_append_right (by omega)] at h1
        have e2 : j = gs.length := by
          have := (List.getElem?_eq_some_iff.mp h1).1
          simp at this
          omega
        subst e2
        rw [Nat.sub_self] at h1
        cases h1
        rw [hl, g1] at h2
        rw [hl, g2] at h3
        cases h2
        cases h3
        exact put he6
    · rintro H4 ⟨gs, s4, hD4, hl, hg⟩
      exact k D gs H4 (s2.trans s4) (SqL.of hD4) (by rw [hl, List.length_drop, List.length_map]; omega) hg

theorem ok_foot_on (T : Txt K mg) (TB : TxtB T base w) : FnOk P w K mg base CX0 2 T.a_foot_on T.d_foot_on ["p", "segment"] (fun vs H Q _ => ∃ (p g a c : Addr) (px py ax ay bx dy : Int), vs = [.ref p, .ref g] ∧ SqT K H p [.int px, .int py] ∧ SegAt K H g a c ax ay bx dy ∧ On px py ∧ ∀ q, H q = none → Q (.ref q) (upd H q (.tup [.int (lowN (clamp (dot (px - ax) (py - ay) (bx - ax) (dy - ay)) (sq (bx - ax) (dy - ay))) (sq (bx - ax) (dy - ay))), .int (lowD (clamp (dot (px - ax) (py - ay) (bx - ax) (dy - ay)) (sq (bx - ax) (dy - ay))) (sq (bx - ax) (dy - ay)))]))) := by
  refine T.F_foot_on.ok sc_foot_on (fun vs H Q E h => ?_) (fun cdv A outer s H vs Q E hr h => ?_)
  · obtain ⟨p, g, a, c, px, py, ax, ay, bx, dy, rfl, hp, hg, op, k⟩ := h
    rfl
  · obtain ⟨p, g, a, c, px, py, ax, ay, bx, dy, rfl, hp, hg, op, k⟩ := h
    refine ⟨_, (pss_cons (ps_asg (pv 1) (pg_tup (by rfl) (pgs_cons (pg_name (i := 2) sc_foot_on.nd rfl (Or.inl rfl)) (pgs_cons (pg_name (i := 3) sc_foot_on.nd rfl (Or.inl rfl)) pgs_nil))))
      (pss_cons (ps_par (i := 4) (j := 5) (by rfl) sc_foot_on.nd rfl rfl (by decide) rfl rfl (pa_cons (pe_op op_sub (pe_ix (r := rIxT K) ix_tup (pv 3) pe_int (fun _ _ => rfl)) (pe_ix (r := rIxT K) ix_tup (pv 2) pe_int (fun _ _ => rfl))) (pa_cons (pe_op op_sub (pe_ix (r := rIxT K) ix_tup (pv 3) pe_int (fun _ _ => rfl)) (pe_ix (r := rIxT K) ix_tup (pv 2) pe_int (fun _ _ => rfl))) pa_nil)) (by rfl))
      (pss_cons (ps_set (i := 6) sc_foot_on.nd rfl (Or.inl rfl) (pe_op op_add (pe_op op_mul (pv 4) (pv 4)) (pe_op op_mul (pv 5) (pv 5))))
      (pss_cons (ps_set (i := 7) sc_foot_on.nd rfl (Or.inl rfl) (pe_op op_add (pe_op op_mul (pe_op op_sub (pe_ix (r := rIxT K) ix_tup (pv 0) pe_int (fun _ _ => rfl)) (pe_ix (r := rIxT K) ix_tup (pv 2) pe_int (fun _ _ => rfl))) (pv 4)) (pe_op op_mul (pe_op op_sub (pe_ix (r := rIxT K) ix_tup (pv 0) pe_int (fun _ _ => rfl)) (pe_ix (r := rIxT K) ix_tup (pv 2) pe_int (fun _ _ => rfl))) (pv 5))))
      (pss_one (ps_ret (pe_call (ok_lowest T TB) (hr.mono (by omega)) rfl T.m_lowest T.F_lowest.kp T.b_lowest .nil pass0 (pa_cons (pe_callB (call_min2 rfl) (by rfl) T.n_min (by decide +kernel) (pa_cons (pe_callB (call_max2 rfl) (by rfl) T.n_max (by decide +kernel) (pa_cons (pv 7) (pa_cons pe_int pa_nil))) (pa_cons (pv 6) pa_nil))) (pa_cons (pv 6) pa_nil))))))))), ?_⟩
    refine ⟨_, rfl, _, _, rfl, hg.g, rfl, _, _, rfl, _, _, rfl, rfl, ?_⟩
    
    have vd := hg.oc.d hg.oa
    have ud := op.d hg.oa
    have hs := sq_pos (ltP_ne hg.lt)
    have sl := sq_le vd
    have dl := dot_le ud vd
    refine ⟨_, rfl, _, _, _, _, rfl, rfl, hg.c, at0, _, rfl, _, _, _, _, rfl, rfl, hg.a, at0, _, _, rfl, rfl, _, rfl, _, _, _, _, rfl, rfl, hg.c, at1, _, rfl, _, _, _, _, rfl, rfl, hg.a, at1, _, _, rfl, rfl, _, _, rfl, ?_⟩
    refine ⟨_, rfl, _, rfl, _, _, rfl, rfl, .inl (m64 vd.1), _, rfl, _, rfl, _, _, rfl, rfl, .inl (m64 vd.2), _, _, rfl, rfl, ?_⟩
    refine ⟨_, rfl, _, _, _, _, rfl, rfl, hp, at0, _, rfl, _, _, _, _, rfl, rfl, hg.a, at0, _, _, rfl, rfl, _, rfl, _, _, rfl, rfl, .inl (m64 ud.1), _, rfl, _, _, _, _, rfl, rfl, hp, at1, _, rfl, _, _, _, _, rfl, rfl, hg.a, at1, _, _, rfl, rfl, _, rfl, _, _, rfl, rfl, .inl (m64 ud.2), _, _, rfl, rfl, ?_⟩
    refine ⟨_, rfl, _, _, rfl, _, rfl, _, _, rfl, _, rfl, _, _, rfl, show sq (bx - ax) (dy - ay) ≠ 0 by omega, pow_up (clamp_le dl sl), pow_up sl, fun q hq => k q hq⟩

theorem ok_gap_to (T : Txt K mg) (TB : TxtB T base w) : FnOk P w K mg base CX0 3 T.a_gap_to T.d_gap_to ["p", "segment"] (fun vs H Q _ => ∃ (p g a c : Addr) (px py ax ay bx dy : Int), vs = [.ref p, .ref g] ∧ SqT K H p [.int px, .int py] ∧ SegAt K H g a c ax ay bx dy ∧ On px py ∧ ∀ H' q, Same H H' → SqT K H' q [.int (lowN (gapN (px - ax) (py - ay) (bx - ax) (dy - ay) (lowN (clamp (dot (px - ax) (py - ay) (bx - ax) (dy - ay)) (sq (bx - ax) (dy - ay))) (sq (bx - ax) (dy - ay))) (lowD (clamp (dot (px - ax) (py - ay) (bx - ax) (dy - ay)) (sq (bx - ax) (dy - ay))) (sq (bx - ax) (dy - ay)))) ((lowD (clamp (dot (px - ax) (py - ay) (bx - ax) (dy - ay)) (sq (bx - ax) (dy - ay))) (sq (bx - ax) (dy - ay))) * (lowD (clamp (dot (px - ax) (py - ay) (bx - ax) (dy - ay)) (sq (bx - ax) (dy - ay))) (sq (bx - ax) (dy - ay))))), .int (lowD (gapN (px - ax) (py - ay) (bx - ax) (dy - ay) (lowN (clamp (dot (px - ax) (py - ay) (bx - ax) (dy - ay)) (sq (bx - ax) (dy - ay))) (sq (bx - ax) (dy - ay))) (lowD (clamp (dot (px - ax) (py - ay) (bx - ax) (dy - ay)) (sq (bx - ax) (dy - ay))) (sq (bx - ax) (dy - ay)))) ((lowD (clamp (dot (px - ax) (py - ay) (bx - ax) (dy - ay)) (sq (bx - ax) (dy - ay))) (sq (bx - ax) (dy - ay))) * (lowD (clamp (dot (px - ax) (py - ay) (bx - ax) (dy - ay)) (sq (bx - ax) (dy - ay))) (sq (bx - ax) (dy - ay)))))] → Q (.ref q) H') := by
  refine T.F_gap_to.ok sc_gap_to (fun vs H Q E h => ?_) (fun cdv A outer s H vs Q E hr h => ?_)
  · obtain ⟨p, g, a, c, px, py, ax, ay, bx, dy, rfl, hp, hg, op, k⟩ := h
    rfl
  · obtain ⟨p, g, a, c, px, py, ax, ay, bx, dy, rfl, hp, hg, op, k⟩ := h
    refine ⟨_, (pss_cons (ps_asg (pv 1) (pg_tup (by rfl) (pgs_cons (pg_name (i := 2) sc_gap_to.nd rfl (Or.inl rfl)) (pgs_cons (pg_name (i := 3) sc_gap_to.nd rfl (Or.inl rfl)) pgs_nil))))
      (pss_cons (ps_asg (pe_call (ok_foot_on T TB) (hr.mono (by omega)) rfl T.m_foot_on T.F_foot_on.kp T.b_foot_on .nil pass0 (pa_cons (pv 0) (pa_cons (pv 1) pa_nil))) (pg_tup (by rfl) (pgs_cons (pg_name (i := 4) sc_gap_to.nd rfl (Or.inl rfl)) (pgs_cons (pg_name (i := 5) sc_gap_to.nd rfl (Or.inl rfl)) pgs_nil))))
      (pss_cons (ps_set (i := 6) sc_gap_to.nd rfl (Or.inl rfl) (pe_op op_sub (pe_op op_mul (pv 5) (pe_op op_sub (pe_ix (r := rIxT K) ix_tup (pv 0) pe_int (fun _ _ => rfl)) (pe_ix (r := rIxT K) ix_tup (pv 2) pe_int (fun _ _ => rfl)))) (pe_op op_mul (pv 4) (pe_op op_sub (pe_ix (r := rIxT K) ix_tup (pv 3) pe_int (fun _ _ => rfl)) (pe_ix (r := rIxT K) ix_tup (pv 2) pe_int (fun _ _ => rfl))))))
      (pss_cons (ps_set (i := 7) sc_gap_to.nd rfl (Or.inl rfl) (pe_op op_sub (pe_op op_mul (pv 5) (pe_op op_sub (pe_ix (r := rIxT K) ix_tup (pv 0) pe_int (fun _ _ => rfl)) (pe_ix (r := rIxT K) ix_tup (pv 2) pe_int (fun _ _ => rfl)))) (pe_op op_mul (pv 4) (pe_op op_sub (pe_ix (r := rIxT K) ix_tup (pv 3) pe_int (fun _ _ => rfl)) (pe_ix (r := rIxT K) ix_tup (pv 2) pe_int (fun _ _ => rfl))))))
      (pss_one (ps_ret (pe_call (ok_lowest T TB) (hr.mono (by omega)) rfl T.m_lowest T.F_lowest.kp T.b_lowest .nil pass0 (pa_cons (pe_op op_add (pe_op op_mul (pv 6) (pv 6)) (pe_op op_mul (pv 7) (pv 7))) (pa_cons (pe_op op_mul (pv 5) (pv 5)) pa_nil))))))))), ?_⟩
    refine ⟨_, rfl, _, _, rfl, hg.g, rfl, _, _, rfl, _, _, rfl, rfl, ?_⟩
    
    have vd := hg.oc.d hg.oa
    have ud := op.d hg.oa
    have hs := sq_pos (ltP_ne hg.lt)
    have L := low_ok (n := clamp (dot (px - ax) (py - ay) (bx - ax) (dy - ay)) (sq (bx - ax) (dy - ay))) (d := sq (bx - ax) (dy - ay)) (by omega)
    have nl := Nat.le_trans L.leN (clamp_le (dot_le ud vd) (sq_le vd))
    have dl := Nat.le_trans L.leD (sq_le vd)
    have gl := gap_le ud vd nl dl
    have dp := L.pos
    refine ⟨_, rfl, _, rfl, _, _, _, _, _, _, _, _, _, _, rfl, hp, hg, op, fun q hq => ?_⟩
    generalize lowN (clamp (dot (px - ax) (py - ay) (bx - ax) (dy - ay)) (sq (bx - ax) (dy - ay))) (sq (bx - ax) (dy - ay)) = n at *
    generalize lowD (clamp (dot (px - ax) (py - ay) (bx - ax) (dy - ay)) (sq (bx - ax) (dy - ay))) (sq (bx - ax) (dy - ay)) = d at *
    have hp1 := tOver (o := HO.tup [.int n, .int d]) hq hp
    have hg1 := hg.same (same_new (o := HO.tup [.int n, .int d]) hq)
    refine ⟨_, _, rfl, tHere, rfl, _, _, rfl, _, _, rfl, rfl, ?_⟩
    refine ⟨_, rfl, _, rfl, _, _, _, _, rfl, rfl, hp1, at0, _, rfl, _, _, _, _, rfl, rfl, hg1.a, at0, _, _, rfl, rfl, _, _, rfl, rfl, .inr (m64 ud.1), _, rfl, _, rfl, _, _, _, _, rfl, rfl, hg1.c, at0, _, rfl, _, _, _, _, rfl, rfl, hg1.a, at0, _, _, rfl, rfl, _, _, rfl, rfl, .inr (m64 vd.1), _, _, rfl, rfl, ?_⟩
    refine ⟨_, rfl, _, rfl, _, _, _, _, rfl, rfl, hp1, at1, _, rfl, _, _, _, _, rfl, rfl, hg1.a, at1, _, _, rfl, rfl, _, _, rfl, rfl, .inr (m64 ud.2), _, rfl, _, rfl, _, _, _, _, rfl, rfl, hg1.c, at1, _, rfl, _, _, _, _, rfl, rfl, hg1.a, at1, _, _, rfl, rfl, _, _, rfl, rfl, .inr (m64 vd.2), _, _, rfl, rfl, ?_⟩
    have e1 : d * (px - ax) - n * (bx - ax) = (px - ax) * d - n * (bx - ax) := by rw [Int.mul_comm d]
    have e2 : d * (py - ay) - n * (dy - ay) = (py - ay) * d - n * (dy - ay) := by rw [Int.mul_comm d]
    refine ⟨_, rfl, _, rfl, _, _, rfl, rfl, .inl (by rw [e1]; exact m64 gl.1), _, rfl, _, rfl, _, _, rfl, rfl, .inl (by rw [e2]; exact m64 gl.2.1), _, _, rfl, rfl, _, rfl, _, rfl, _, _, rfl, rfl, .inl (m64 dl), _, _, rfl, show d * d ≠ 0 from mul_ne dp dp, ?_, pow_up (mul_le dl dl), fun r hr => ?_⟩
    · show ((d * (px - ax) - n * (bx - ax)) * (d * (px - ax) - n * (bx - ax)) + (d * (py - ay) - n * (dy - ay)) * (d * (py - ay) - n * (dy - ay))).natAbs ≤ 2 ^ 200
      rw [e1, e2]
      exact pow_up gl.2.2
    · refine k _ r (same_then (same_new hq) hr) ?_
      have e3 : (d * (px - ax) - n * (bx - ax)) * (d * (px - ax) - n * (bx - ax)) + (d * (py - ay) - n * (dy - ay)) * (d * (py - ay) - n * (dy - ay)) = gapN (px - ax) (py - ay) (bx - ax) (dy - ay) n d := by rw [e1, e2]; rfl
      rw [← e3]
      exact tHere

theorem ok_nearest_edge (T : Txt K mg) (TB : TxtB T base w) : FnOk P w K mg base CX0 12 T.a_nearest_edge T.d_nearest_edge ["p", "line"] (fun vs H Q _ => ∃ (p a : Addr) (px py : Int) (zs : List Zp), vs = [.ref p, .ref a] ∧ SqT K H p [.int px, .int py] ∧ On px py ∧ LnAt K H a zs ∧ LnOk zs ∧ Tbs T.ts H ∧ ∀ (r f : Addr) H', Same H H' → SqT K H' r [.int (bI (gF px py zs) (zs.length - 1) : Nat), .ref f] → Gp K H' f (gF px py zs (bI (gF px py zs) (zs.length - 1))) → Q (.ref r) H') := by
  refine T.F_nearest_edge.ok sc_nearest_edge (fun vs H Q E h => ?_) (fun cdv A outer s H vs Q E hr h => ?_)
  · obtain ⟨p, a, px, py, zs, rfl, hp, op, ha, ok, tb, k⟩ := h
    rfl
  · obtain ⟨p, a, px, py, zs, rfl, hp, op, ha, ok, tb, k⟩ := h
    refine ⟨_, (pss_cons (ps_expr (pe_call (ok_need T TB) (hr.mono (by omega)) rfl T.m_need T.F_need.kp T.b_need .nil pass0 (pa_cons (pe_call (ok_is_point T TB) (hr.mono (by omega)) rfl T.m_is_point T.F_is_point.kp T.b_is_point .nil pass0 (pa_cons (pv 0) pa_nil)) (pa_cons pe_str pa_nil))))
      (pss_cons (ps_expr (pe_call (ok_need T TB) (hr.mono (by omega)) rfl T.m_need T.F_need.kp T.b_need .nil pass0 (pa_cons (pe_call (ok_is_line T TB) (hr.mono (by omega)) rfl T.m_is_line T.F_is_line.kp T.b_is_line .nil pass0 (pa_cons (pv 1) pa_nil)) (pa_cons pe_str pa_nil))))
      (pss_cons (ps_setLc (i := 2) (own := [("edge", 6)]) (g := gName 6) (tt := tYes) rfl sc_nearest_edge.nd rfl rfl (sw_true rfl rfl rfl (by decide +kernel)) (pi_list (pe_call (ok_edges_along T TB) (hr.mono (by omega)) rfl T.m_edges_along T.F_edges_along.kp T.b_edges_along .nil pass0 (pa_cons (pv 1) pa_nil))) (blkOk_by (own := [("edge", 6)]) (N := N_nearest_edge) (sc := defScope s_nearest_edge) (by decide +kernel)) (fun _ _ _ _ _ => pg_name (i := 6) sc_nearest_edge.nd rfl (Or.inl rfl)) (fun _ _ _ _ _ => pts_nil) (fun _ _ _ _ _ => (pe_call (ok_gap_to T TB) (hr.mono (by omega)) rfl T.m_gap_to T.F_gap_to.kp T.b_gap_to .nil pass0 (pa_cons (pv 0) (pa_cons (pv 6) pa_nil)))))
      (pss_cons (ps_set (i := 3) sc_nearest_edge.nd rfl (Or.inl rfl) pe_int)
      (pss_cons (ps_for PassesOwn.never rfl (pi_enum rfl T.n_enumerate (pa_cons (pv 2) pa_nil)) (pg_tup (by rfl) (pgs_cons (pg_name (i := 4) sc_nearest_edge.nd rfl (Or.inl rfl)) (pgs_cons (pg_name (i := 5) sc_nearest_edge.nd rfl (Or.inl rfl)) pgs_nil)))
        (pss_one (ps_if (pt_val (pe_call (ok_less T TB) (hr.mono (by omega)) rfl T.m_less T.F_less.kp T.b_less .nil pass0 (pa_cons (pv 5) (pa_cons (pe_ix (r := rIxL K) ix_list (pv 2) (pv 3) (fun _ _ => rfl)) pa_nil))))
          (pss_one (ps_set (i := 3) sc_nearest_edge.nd rfl (Or.inl rfl) (pv 4)))
          pss_nil)))
      (pss_one (ps_ret (pe_tup (pa_cons (pv 3) (pa_cons (pe_ix (r := rIxL K) ix_list (pv 2) (pv 3) (fun _ _ => rfl)) pa_nil)))))))))), ?_⟩
    have hl : zs.length ≤ 1000 := by have := ok.2.1; omega
    obtain ⟨l1, l2, hne⟩ := id ok
    refine ⟨_, rfl, _, _, rfl, .pt hp op, _, _, rfl, rfl, ?_⟩
    refine ⟨_, rfl, _, _, rfl, .good ha hl ok, tb, fun H1 s1 => ⟨_, _, rfl, rfl, ?_⟩⟩
    refine ⟨_, rfl, _, _, rfl, ha.same s1, ok, fun l gs H2 s2 hgs hlen he => ⟨_, rfl, ⟨_, hgs⟩, fun D hD => ?_⟩⟩
    have s12 := s1.trans s2
    refine lc_it (walk_list (xs := gs.map V.ref)) (fun i H' => ∃ fs : List Addr, Same H2 H' ∧ H' D = some (.lst (fs.map V.ref)) ∧ fs.length = i ∧ ∀ (j : Nat) f, fs[j]? = some f → Gp K H' f (gF px py zs j)) ⟨[], same_new hD, upd_same, rfl, fun j f h => by cases h⟩ (fun i H' _ h => ?_) ?_ ?_
    · obtain ⟨_, s3, _⟩ := h
      exact s3.seq hgs
    · rintro i x H4 H5 hi ⟨fs, s4, hD4, hl4, hf⟩ ⟨rfl, f1⟩
      rw [List.getElem?_map] at f1
      obtain ⟨g, g1, rfl⟩ := Option.map_eq_some_iff.mp f1
      have hi2 : i < gs.length := (List.getElem?_eq_some_iff.mp g1).1
      obtain ⟨u, u1⟩ : ∃ u, zs[i]? = some u := ⟨_, List.getElem?_eq_getElem (by omega)⟩
      obtain ⟨w1, w2⟩ : ∃ u, zs[i + 1]? = some u := ⟨_, List.getElem?_eq_getElem (by omega)⟩
      have ou := ha.on _ (List.mem_of_getElem? u1)
      have ow := ha.on _ (List.mem_of_getElem? w2)
      have nd := hne i u w1 u1 w2
      have hs := (gap_ok op ou ow nd).1
      have hp4 := tSame (s12.trans s4) hp
      refine ⟨rfl, yesI ?_⟩
      refine iteT ?_
      have fin : ∀ H6 q, Same H5 H6 → Gp K H6 q (gF px py zs i) → ∃ acc, H6 D = some (.lst acc) ∧ acc.length < sizeLine ∧ ∃ fs : List Addr, Same H2 (upd H6 D (.lst (acc ++ [V.ref q]))) ∧ (upd H6 D (.lst (acc ++ [V.ref q]))) D = some (.lst (fs.map V.ref)) ∧ fs.length = i + 1 ∧ ∀ (j : Nat) f, fs[j]? = some f → Gp K (upd H6 D (.lst (acc ++ [V.ref q]))) f (gF px py zs j) := by
        intro H6 q e6 gq
        have hD6 := e6.get hD4
        refine ⟨_, hD6, by rw [List.length_map]; exact line_of (by omega), fs ++ [q], (s4.trans e6).put hD, by rw [upd_same, List.map_append]; rfl, by rw [List.length_append, hl4]; rfl, fun j f h => ?_⟩
        by_cases e : j < fs.length
        · rw [List.getElem?_append_left e] at h
          exact ((hf j f h).same e6).put ⟨_, hD6⟩
        · rw [List.getElem?_append_right (by omega)] at h
          have e2 : j = fs.length := by
            have := (List.getElem?_eq_some_iff.mp h).1
            simp at this
            omega
          subst e2
          rw [Nat.sub_self] at h
          cases h
          rw [hl4]
          exact gq.put ⟨_, hD6⟩
      rcases (he i g u w1 g1 u1 w2).same s4 with ee | ee
      · refine ⟨_, rfl, _, rfl, _, _, _, _, _, _, _, _, _, _, rfl, hp4, ee, op, fun H6 q e6 hq => fin H6 q e6 (.edge u1 w2 op ou ow nd ?_)⟩
        rw [(red_gap hs).1, (red_gap hs).2] at hq
        exact hq
      · refine ⟨_, rfl, _, rfl, _, _, _, _, _, _, _, _, _, _, rfl, hp4, ee, op, fun H6 q e6 hq => fin H6 q e6 (.edge u1 w2 op ou ow nd ?_)⟩
        have hs2 : 0 < sq (u.2.1 - w1.2.1) (u.2.2 - w1.2.2) := by rw [sq_flip]; exact hs
        rw [(red_gap hs2).1, (red_gap hs2).2, (gN_flip hs).1, (gN_flip hs).2] at hq
        exact hq
    · rintro H4 ⟨fs, s4, hD4, hl4, hf⟩
      have hfl : fs.length = gs.length := by rw [hl4, List.length_map]
      have at_ : ∀ {j : Nat}, j < fs.length → ∃ f, (fs.map V.ref)[j]? = some (.ref f) ∧ Gp K H4 f (gF px py zs j) := fun {j} hj => by
        have z := List.getElem?_eq_getElem hj
        exact ⟨fs[j], by rw [List.getElem?_map, z]; rfl, hf j _ z⟩
      refine ⟨_, rfl, _, _, rfl, SqL.of hD4, for_it (walk_enum (xs := fs.map V.ref)) (fun i σ H' => ∃ o4 o5, σ = [some (.ref p), some (.ref a), some (.ref D), some (.int (bI (gF px py zs) i : Nat)), o4, o5, none] ∧ Same H4 H') ⟨none, none, rfl, Same.refl _⟩ (fun i σ H' _ h => ?_) ?_ ?_⟩
      · obtain ⟨_, _, _, s5⟩ := h
        exact SqL.of (s5.get hD4)
      · rintro i x σ H5 H6 hi ⟨o4, o5, rfl, s5⟩ ⟨T1, x1, x2, rfl, hT, rfl, f1, f2⟩
        rw [List.length_map] at hi
        cases f1
        obtain ⟨g, f3, hg⟩ := at_ hi
        have f2 : (fs.map V.ref)[i]? = some x2 := f2
        rw [f3] at f2
        cases f2
        have hbi : bI (gF px py zs) i < fs.length := by
          cases i with
          | zero => exact hi
          | succ i => have := bI_le (gF px py zs) i; omega
        obtain ⟨g2, f4, hg2⟩ := at_ hbi
        have s6 := same_then (o := HO.tup [V.int i, V.ref g]) s5 hT
        refine ⟨_, _, rfl, tHere, rfl, _, _, rfl, _, _, rfl, rfl, ?_⟩
        refine ⟨_, rfl, _, rfl, _, rfl, _, _, _, _, rfl, rfl, SqL.of (s6.get hD4), atI_nat f4, _, _, _, _, rfl, hg.same s6, hg2.same s6, _, rfl, ifD (fun e => ?_) (fun e => ?_)⟩
        · exact ⟨_, rfl, _, _, by rw [bI, if_pos e]; rfl, s6⟩
        · exact ⟨_, _, by rw [bI, if_neg e]; rfl, s6⟩
      · rintro σ H5 ⟨o4, o5, rfl, s5⟩
        have en : (fs.map V.ref).length = zs.length - 1 := by rw [List.length_map]; omega
        rw [en]
        have hbi : bI (gF px py zs) (zs.length - 1) < fs.length := by
          obtain ⟨n, hn⟩ : ∃ n, zs.length - 1 = n + 1 := ⟨zs.length - 2, by omega⟩
          rw [hn]
          have := bI_le (gF px py zs) n
          omega
        obtain ⟨g2, f4, hg2⟩ := at_ hbi
        exact ⟨_, rfl, _, rfl, _, rfl, _, _, _, _, rfl, rfl, SqL.of (s5.get hD4), atI_nat f4, small rfl, fun r hr => k r g2 _ ((s12.trans s4).trans (same_then s5 hr)) tHere ((hg2.same s5).same (same_new hr))⟩

theorem ok__law_stream (T : Txt K mg) (TB : TxtB T base w) : FnOk P w K mg base CX0 1 T.a__law_stream T.d__law_stream ["script"] (fun vs H Q _ => ∃ (a : Addr) (ns : List Int), vs = [.ref a] ∧ SqL K H a (ns.map V.int) ∧ ∀ H' s b, Same H H' → H s = none → Strm H' s b → Q (.ref s) H') := by
  refine T.F__law_stream.ok sc__law_stream (fun vs H Q E h => ?_) (fun cdv A outer s H vs Q E hr h => ?_)
  · obtain ⟨a, ns, rfl, hS, k⟩ := h
    rfl
  · obtain ⟨a, ns, rfl, hS, k⟩ := h
    refine ⟨_, (pss_one (ps_ret (pe_lst (pa_cons (pe_callTy call_list_of (by rfl) T.n_list (by decide +kernel) (pa_cons (pv 0) pa_nil)) (pa_cons pe_int (pa_cons pe_int pa_nil)))))), ?_⟩
    refine ⟨_, rfl, _, _, rfl, .inl hS, fun b hb => ⟨small rfl, fun s hs => ?_⟩⟩
    have hs' := hs
    have nb : s ≠ b := fun e => by rw [e, upd_same] at hs'; cases hs'
    rw [upd_ne nb] at hs'
    exact k _ s b (same_then (same_new hb) hs) hs' ⟨ns, 0, 0, by rw [upd_ne nb.symm, upd_same], upd_same, by decide, by decide⟩

theorem ok__law_next (T : Txt K mg) (TB : TxtB T base w) : FnOk P w K mg base CX0 1 T.a__law_next T.d__law_next ["stream", "many"] (fun vs H Q _ => ∃ (s : Addr) (m : Int) (b : Addr), vs = [.ref s, .int m] ∧ 0 < m ∧ m < 2 ^ 200 ∧ Strm H s b ∧ ∀ (d : Int) H', 0 ≤ d → d < m → Strm H' s b → But s H H' → Q (.int d) H') := by
  refine T.F__law_next.ok sc__law_next (fun vs H Q E h => ?_) (fun cdv A outer s H vs Q E hr h => ?_)
  · obtain ⟨s, m, b, rfl, m0, m1, S, k⟩ := h
    rfl
  · obtain ⟨s, m, b, rfl, m0, m1, S, k⟩ := h
    refine ⟨_, (C8.pss_cut (ps_if (pt_cmpR op_eq (pe_ix (r := rIxL K) ix_list (pv 0) pe_int (fun _ _ => rfl)) pe_int (nomark _))
        (pss_cons (ps_set (i := 2) sc__law_next.nd rfl (Or.inl rfl) (pe_ix (r := rIxL K) ix_list (pv 0) pe_int (fun _ _ => rfl)))
        (pss_cons (ps_set (i := 3) sc__law_next.nd rfl (Or.inl rfl) (pe_op op_add pe_int (pv 2)))
        (C8.pss_cut (ps_if (pt_cmpR op_lt (pv 2) (pe_callB call_len (by rfl) T.n_len (by decide +kernel) (pa_cons (pe_ix (r := rIxL K) ix_list (pv 0) pe_int (fun _ _ => rfl)) pa_nil)) (nomark _))
          (pss_one (ps_set (i := 3) sc__law_next.nd rfl (Or.inl rfl) (pe_callB call_abs (by rfl) T.n_abs (by decide +kernel) (pa_cons (pe_ix (r := rIxL K) ix_list (pe_ix (r := rIxL K) ix_list (pv 0) pe_int (fun _ _ => rfl)) (pv 2) (fun _ _ => rfl)) pa_nil))))
          pss_nil)
        (C8.pss_cut (ps_if (pt_cmpR op_lt (pv 3) (pe_op op_pow pe_int pe_int) (nomark _))
          (pss_cons (ps_set (i := 3) sc__law_next.nd rfl (Or.inl rfl) (pe_op op_modN (pe_callTy call_int1 (by rfl) T.n_int (by decide +kernel) (pa_cons (pe_op op_add (pe_op op_add (pe_op op_mul (pv 3) pe_int) (pe_op op_mul (pv 2) pe_int)) pe_int) pa_nil)) pe_int))
          (pss_one (ps_set (i := 3) sc__law_next.nd rfl (Or.inl rfl) (pe_op op_add (pe_op op_mul (pe_op op_modN (pe_callTy call_int1 (by rfl) T.n_int (by decide +kernel) (pa_cons (pe_op op_add (pe_op op_mul (pv 3) pe_int) pe_int) pa_nil)) pe_int) pe_int) (pv 3)))))
          pss_nil)
        (pss_cons (ps_asg (pv 3) (pg_sub (pv 0) pe_int set_list))
        (pss_one (ps_asg (pe_op op_add (pv 2) pe_int) (pg_sub (pv 0) pe_int set_list))))))))
        pss_nil)
      (pss_cons (ps_set (i := 4) sc__law_next.nd rfl (Or.inl rfl) (pe_op op_modN (pe_callTy call_int1 (by rfl) T.n_int (by decide +kernel) (pa_cons (pe_ix (r := rIxL K) ix_list (pv 0) pe_int (fun _ _ => rfl)) pa_nil)) (pv 1)))
      (pss_cons (ps_asg (pe_op op_fdivW (pe_ix (r := rIxL K) ix_list (pv 0) pe_int (fun _ _ => rfl)) (pv 1)) (pg_sub (pv 0) pe_int set_list))
      (pss_one (ps_ret (pv 4)))))), ?_⟩
    obtain ⟨ns, c, kk, hb, hs, c0, k0⟩ := S
    have nbs : b ≠ s := Strm.ne hb hs
    refine ⟨fun σ' H' => ∃ (c kk : Int) (o1 o2 : Option V), σ' = [some (.ref s), some (.int m), o1, o2, none] ∧ H' b = some (.lst (ns.map V.int)) ∧ H' s = some (.lst [.ref b, .int c, .int kk]) ∧ 0 ≤ c ∧ 0 ≤ kk ∧ But s H H', ?_, ?_⟩
    rotate_left
    · rintro σ' H1 ⟨c, kk, o1, o2, rfl, hb, hs, c0, k0, hB⟩
      refine ⟨_, rfl, _, _, _, _, rfl, rfl, SqL.of hs, at1, .inl ⟨_, rfl, _, rfl, _, _, rfl, rfl, by omega, ?_⟩⟩
      refine ⟨_, rfl, _, _, _, _, rfl, rfl, SqL.of hs, at1, _, rfl, _, _, rfl, rfl, wide_div (b := 200) m0 (by omega) (by decide) (by decide), _, rfl, _, _, _, 1, rfl, rfl, hs, rfl, ?_⟩
      refine ⟨_, rfl, ?_⟩
      exact k _ _ (fmod_ge m0) (fmod_lt m0) ⟨ns, c / m, kk, by rw [upd_ne nbs]; exact hb, upd_same, div_ge c0 m0, k0⟩ hB.then_at
    refine ⟨_, rfl, _, _, _, _, rfl, rfl, SqL.of hs, at1, rfl, _, rfl, ?_⟩
    refine ifD (fun e => ?_) (fun e => ⟨c, kk, none, none, rfl, hb, hs, c0, k0, But.refl⟩)
    refine ⟨_, rfl, _, _, _, _, rfl, rfl, SqL.of hs, at2, _, rfl, _, _, rfl, rfl, ?_⟩
    -- if k < len(stream[0])
    have mid : ∀ (cell : Int) (t u : TS) (D : Ends) (σ : St) (H1 : Hp), t { D with nx := fun σ' H' => ∃ cell : Int, σ' = [some (.ref s), some (.int m), some (.int kk), some (.int cell), none] ∧ H' = H ∧ 0 ≤ cell } σ H1 → (∀ cell : Int, 0 ≤ cell → u D [some (.ref s), some (.int m), some (.int kk), some (.int cell), none] H) → C8.tCut t u D σ H1 := by
      intro _ t u D σ H1 h1 h2
      exact ⟨_, h1, fun σ' H' ⟨cell, e1, e2, e3⟩ => by rw [e1, e2]; exact h2 cell e3⟩
    refine mid 0 _ _ _ _ _ ?_ fun cell p0 => mid 0 _ _ _ _ _ ?_ fun cell p0 => ?_
    · refine ⟨_, rfl, _, rfl, _, _, _, _, rfl, rfl, SqL.of hs, at0, _, _, rfl, .inl ⟨_, SqL.of hb, rfl⟩, _, _, rfl, rfl, _, rfl, ?_⟩
      refine ifD (fun e => ?_) (fun e => ⟨_, rfl, rfl, by omega⟩)
      have hk : kk.toNat < ns.length := by rw [List.length_map] at e; omega
      refine ⟨_, rfl, _, _, _, _, rfl, rfl, SqL.of hs, at0, _, rfl, _, _, kk, _, rfl, rfl, SqL.of hb, at_of (j := kk.toNat) (v := V.int ns[kk.toNat]) (by omega) (by rw [List.getElem?_map, List.getElem?_eq_getElem hk]; rfl), _, rfl, ?_⟩
      exact ⟨_, rfl, rfl, by split <;> omega⟩
    · refine ⟨_, rfl, _, _, rfl, rfl, ⟨by decide, by decide, by decide⟩, _, _, rfl, rfl, _, rfl, ?_⟩
      refine ifD (fun e => ?_) (fun e => ⟨_, rfl, rfl, p0⟩)
      refine ⟨_, rfl, _, _, rfl, rfl, .inr ⟨by decide, by decide⟩, _, rfl, _, _, rfl, rfl, .inr ⟨by decide, by decide⟩, _, _, rfl, rfl, _, _, rfl, rfl, .inl ⟨_, rfl, _, _, rfl, rfl, show (2147483647 : Int) ≠ 0 by decide, ?_⟩⟩
      have q0 := fmod_ge (a := cell * 48271 + kk * 69621 + 11) (m := 2147483647) (by decide)
      refine ⟨_, rfl, _, _, rfl, rfl, .inr ⟨by decide, by decide⟩, _, _, rfl, rfl, .inl ⟨_, rfl, _, _, rfl, rfl, show (2147483647 : Int) ≠ 0 by decide, _, _, rfl, rfl, .inr ⟨by decide, by decide⟩, _, rfl, _, _, rfl, rfl, ?_⟩⟩
      have q1 := fmod_ge (a := (cell * 48271 + kk * 69621 + 11).fmod 2147483647 * 16807 + 13) (m := 2147483647) (by decide)
      exact ⟨_, rfl, rfl, by omega⟩
    refine ⟨_, rfl, _, rfl, _, _, _, 1, rfl, rfl, hs, rfl, ?_⟩
    refine ⟨_, rfl, _, _, rfl, rfl, _, rfl, _, _, _, 2, rfl, rfl, upd_same, rfl, ?_⟩
    exact ⟨cell, kk + 1, _, _, rfl, by rw [upd_ne nbs, upd_ne nbs]; exact hb, upd_same, p0, by omega, But.at.then_at⟩

theorem ok__law_is_integer (T : Txt K mg) (TB : TxtB T base w) : FnOk P w K mg base CX0 1 T.a__law_is_integer T.d__law_is_integer ["actual"] (fun vs H Q _ => ∃ x n, vs = [x] ∧ Ty K H x n ∧ Q (.bl (n == "int")) H) := by
  refine T.F__law_is_integer.ok sc__law_is_integer (fun vs H Q E h => ?_) (fun cdv A outer s H vs Q E hr h => ?_)
  · obtain ⟨x, n, rfl, hx, k⟩ := h
    rfl
  · obtain ⟨x, n, rfl, hx, k⟩ := h
    refine ⟨_, (pss_one (ps_ret (pe_and (pe_callB call_isi (by rfl) T.n_isinstance (by decide +kernel) (pa_cons (pv 0) (pa_cons (pe_bltn (v := .ty "int") (by rfl) T.n_int (by decide +kernel) rfl) pa_nil))) (pe_one (pe_not (pe_callB call_isi (by rfl) T.n_isinstance (by decide +kernel) (pa_cons (pv 0) (pa_cons (pe_bltn (v := .ty "bool") (by rfl) T.n_bool (by decide +kernel) rfl) pa_nil)))))))), ?_⟩
    refine ⟨_, rfl, ⟨_, _, _, _, _, rfl, .ty _, (hx).x, isaN (Ty.six hx) (by simp [My.six]), ⟨_, rfl, ?_⟩⟩⟩
    cases hx
    all_goals first | (refine ifTr (by decide) ?_) | (refine ifFa (by decide) ?_; exact k)
    · exact ⟨_, rfl, ⟨_, _, _, _, _, rfl, .ty _, ((Ty.bl _)).x, isaN (by simp [My.six]) (by simp [My.six]), ⟨_, rfl, k⟩⟩⟩
    · exact ⟨_, rfl, ⟨_, _, _, _, _, rfl, .ty _, ((Ty.int _)).x, isaN (by simp [My.six]) (by simp [My.six]), ⟨_, rfl, k⟩⟩⟩

theorem ok__law_gcd (T : Txt K mg) (TB : TxtB T base w) : FnOk P w K mg base CX0 1 T.a__law_gcd T.d__law_gcd ["a", "b"] (fun vs H Q _ => ∃ n d : Int, vs = [.int n, .int d] ∧ n.natAbs ≤ 2 ^ 200 ∧ d.natAbs ≤ 2 ^ 200 ∧ Q (.int (Nat.gcd n.natAbs d.natAbs : Nat)) H) := by
  refine T.F__law_gcd.ok sc__law_gcd (fun vs H Q E h => ?_) (fun cdv A outer s H vs Q E hr h => ?_)
  · obtain ⟨n, d, rfl, h1, h2, k⟩ := h
    rfl
  · obtain ⟨n, d, rfl, h1, h2, k⟩ := h
    refine ⟨_, (pss_cons (ps_set (i := 0) sc__law_gcd.nd rfl (Or.inl rfl) (pe_callB call_abs (by rfl) T.n_abs (by decide +kernel) (pa_cons (pv 0) pa_nil)))
      (pss_cons (ps_set (i := 1) sc__law_gcd.nd rfl (Or.inl rfl) (pe_callB call_abs (by rfl) T.n_abs (by decide +kernel) (pa_cons (pv 1) pa_nil)))
      (pss_cons (ps_for PassesOwn.never rfl (pi_range1 rfl T.n_range (pa_cons pe_int pa_nil)) (pg_name (i := 2) sc__law_gcd.nd rfl (Or.inl rfl))
        (pss_cons (ps_if (pt_cmpR op_eq (pv 1) pe_int (nomark _))
          (pss_one ps_break)
          pss_nil)
        (pss_one (ps_par (i := 0) (j := 1) (by rfl) sc__law_gcd.nd rfl rfl (by decide) rfl rfl (pa_cons (pv 1) (pa_cons (pe_op op_modN (pe_callTy call_int1 (by rfl) T.n_int (by decide +kernel) (pa_cons (pv 0) pa_nil)) (pv 1)) pa_nil)) (by rfl)))))
      (pss_one (ps_ret (pv 0)))))), ?_⟩
    refine ⟨_, rfl, _, rfl, ?_⟩
    refine ⟨_, rfl, _, rfl, ?_⟩
    refine ⟨40000, rfl, by decide, by decide, for_range (lo := 0) (n := 40000) (fun i σ H' => H' = H ∧ ∃ (x y : Nat) (v : Option V), σ = [some (.int x), some (.int y), v] ∧ GI n.natAbs d.natAbs (2 ^ 200) i x y) ⟨rfl, n.natAbs, d.natAbs, none, by rw [← abs_nat n, ← abs_nat d]; rfl, GI.start h1 h2⟩ ?_ ?_⟩
    · rintro i σ H' hi ⟨rfl, x, y, v, rfl, g⟩
      refine ⟨_, rfl, rfl, _, rfl, ifD (fun e => ?_) (fun e => ?_)⟩
      · have y0 : y = 0 := by injection e with e; omega
        subst y0
        refine ⟨_, rfl, ?_⟩
        rw [← g.g, Nat.gcd_zero_right] at k
        exact k
      · have y0 : 0 < y := by
          rcases Nat.eq_zero_or_pos y with z | z
          · rw [z] at e; exact absurd rfl e
          · exact z
        refine ⟨_, rfl, _, rfl, .inl ⟨_, rfl, _, rfl, _, _, rfl, rfl, show ((y : Nat) : Int) ≠ 0 by omega, _, _, rfl, ?_⟩⟩
        exact ⟨rfl, y, x % y, _, by rw [← fmod_nat]; rfl, g.step y0⟩
    · rintro σ H' ⟨rfl, x, y, v, rfl, g⟩
      have y0 := g.done (by decide)
      subst y0
      refine ⟨_, rfl, ?_⟩
      rw [← g.g, Nat.gcd_zero_right] at k
      exact k

theorem ok__law_low (T : Txt K mg) (TB : TxtB T base w) : FnOk P w K mg base CX0 2 T.a__law_low T.d__law_low ["n", "d"] (fun vs H Q _ => ∃ n d : Int, vs = [.int n, .int d] ∧ d ≠ 0 ∧ n.natAbs ≤ 2 ^ 200 ∧ d.natAbs ≤ 2 ^ 200 ∧ ∀ p, H p = none → Q (.ref p) (upd H p (.tup [.int (lowN n d), .int (lowD n d)]))) := by
  refine T.F__law_low.ok sc__law_low (fun vs H Q E h => ?_) (fun cdv A outer s H vs Q E hr h => ?_)
  · obtain ⟨n, d, rfl, d0, h1, h2, k⟩ := h
    rfl
  · obtain ⟨n, d, rfl, d0, h1, h2, k⟩ := h
    refine ⟨_, (pss_cons (ps_set (i := 2) sc__law_low.nd rfl (Or.inl rfl) (pe_call (ok__law_gcd T TB) (hr.mono (by omega)) rfl T.m__law_gcd T.F__law_gcd.kp T.b__law_gcd .nil pass0 (pa_cons (pv 0) (pa_cons (pv 1) pa_nil))))
      (C8.pss_cut (ps_if (pt_cmpR op_lt (pv 1) pe_int (nomark _))
        (pss_one (ps_set (i := 2) sc__law_low.nd rfl (Or.inl rfl) (pe_op op_sub pe_int (pv 2))))
        pss_nil)
      (pss_one (ps_ret (pe_tup (pa_cons (pe_op op_fdivV (pv 0) (pv 2)) (pa_cons (pe_op op_fdivV (pv 1) (pv 2)) pa_nil))))))), ?_⟩
    refine ⟨_, rfl, _, rfl, _, _, rfl, h1, h2, ?_⟩
    have hb := Nat.le_trans (sgcd_le (n := n) d0) h2
    refine ⟨fun σ' H' => H' = H ∧ σ' = [some (.int n), some (.int d), some (.int (sgcd n d))], ?_, ?_⟩
    · refine ⟨_, rfl, _, _, rfl, rfl, _, rfl, ifD (fun e => ?_) (fun e => ?_)⟩
      · refine ⟨_, rfl, _, _, rfl, rfl, ?_⟩
        exact ⟨rfl, by rw [sgcd, if_pos e]; rfl⟩
      · exact ⟨rfl, by rw [sgcd, if_neg e]; rfl⟩
    · rintro σ' H' ⟨rfl, rfl⟩
      exact ⟨_, rfl, _, rfl, _, _, rfl, rfl, ⟨sgcd_ne d0, pow200 hb⟩, _, rfl, _, rfl, _, _, rfl, rfl, ⟨sgcd_ne d0, pow200 hb⟩, small rfl, fun p hp => k p hp⟩


def spEq (K : PySem.W.Frag) (n : Nat) : Sp := fun vs H Q _ => ∃ x y, vs = [x, y] ∧ Dq K H n x y ∧ ∀ H', Same H H' → Q (.bl true) H'
theorem ok__law_equal (T : Txt K mg) (TB : TxtB T base w) : ∀ n : Nat, FnOk P w K mg base CX0 (n + 1) T.a__law_equal T.d__law_equal ["actual", "due"] (spEq K n)
  | 0 => T.F__law_equal.ok sc__law_equal (fun vs H Q E h => by obtain ⟨x, y, rfl, hd, _⟩ := h; cases hd) (fun cdv A outer s H vs Q E hr h => by obtain ⟨x, y, rfl, hd, _⟩ := h; cases hd)
  | n + 1 => by
    have ih : FnOk P w K mg base CX0 (n + 1) T.a__law_equal T.d__law_equal ["actual", "due"] (spEq K n) := ok__law_equal T TB n
    refine T.F__law_equal.ok sc__law_equal (fun vs H Q E h => ?_) (fun cdv A outer s H vs Q E hr h => ?_)
    · obtain ⟨x, y, rfl, _⟩ := h
      rfl
    · obtain ⟨x, y, rfl, hd, k⟩ := h
      refine ⟨_, (pss_cons (ps_if (pt_cmpR op_isN (pv 1) pe_non (nomark _))
        (pss_one (ps_ret (pe_cmpR op_isN (pv 0) pe_non (nomark _))))
        pss_nil)
      (pss_cons (ps_if (pt_val (pe_callB call_isi (by rfl) T.n_isinstance (by decide +kernel) (pa_cons (pv 1) (pa_cons (pe_bltn (v := .ty "bool") (by rfl) T.n_bool (by decide +kernel) rfl) pa_nil))))
        (pss_one (ps_ret (pe_and (pe_callB call_isi (by rfl) T.n_isinstance (by decide +kernel) (pa_cons (pv 0) (pa_cons (pe_bltn (v := .ty "bool") (by rfl) T.n_bool (by decide +kernel) rfl) pa_nil))) (pe_one (pe_cmpR op_eq (pv 0) (pv 1) (nomark _))))))
        pss_nil)
      (pss_cons (ps_if (pt_val (pe_callB call_isi (by rfl) T.n_isinstance (by decide +kernel) (pa_cons (pv 1) (pa_cons (pe_bltn (v := .ty "int") (by rfl) T.n_int (by decide +kernel) rfl) pa_nil))))
        (pss_one (ps_ret (pe_and (pe_call (ok__law_is_integer T TB) (hr.mono (by omega)) rfl T.m__law_is_integer T.F__law_is_integer.kp T.b__law_is_integer .nil pass0 (pa_cons (pv 0) pa_nil)) (pe_one (pe_cmpR op_eq (pv 0) (pv 1) (nomark _))))))
        pss_nil)
      (pss_cons (ps_if (pt_val (pe_callB call_isi (by rfl) T.n_isinstance (by decide +kernel) (pa_cons (pv 1) (pa_cons (pe_bltn (v := .ty "str") (by rfl) T.n_str (by decide +kernel) rfl) pa_nil))))
        (pss_one (ps_ret (pe_and (pe_callB call_isi (by rfl) T.n_isinstance (by decide +kernel) (pa_cons (pv 0) (pa_cons (pe_bltn (v := .ty "str") (by rfl) T.n_str (by decide +kernel) rfl) pa_nil))) (pe_one (pe_cmpR op_eq (pv 0) (pv 1) (nomark _))))))
        pss_nil)
      (pss_cons (ps_if (PW.pt (pw_and (pt_val (pe_callB call_isi (by rfl) T.n_isinstance (by decide +kernel) (pa_cons (pv 1) (pa_cons (pe_bltn (v := .ty "tuple") (by rfl) T.n_tuple (by decide +kernel) rfl) pa_nil)))) (pw_and1 (pt_not (pt_val (pe_callB call_isi (by rfl) T.n_isinstance (by decide +kernel) (pa_cons (pv 0) (pa_cons (pe_bltn (v := .ty "tuple") (by rfl) T.n_tuple (by decide +kernel) rfl) pa_nil))))))))
        (pss_one (ps_ret pe_bl))
        pss_nil)
      (pss_cons (ps_if (PW.pt (pw_and (pt_val (pe_callB call_isi (by rfl) T.n_isinstance (by decide +kernel) (pa_cons (pv 1) (pa_cons (pe_bltn (v := .ty "list") (by rfl) T.n_list (by decide +kernel) rfl) pa_nil)))) (pw_and1 (pt_not (pt_val (pe_callB call_isi (by rfl) T.n_isinstance (by decide +kernel) (pa_cons (pv 0) (pa_cons (pe_bltn (v := .ty "list") (by rfl) T.n_list (by decide +kernel) rfl) pa_nil))))))))
        (pss_one (ps_ret pe_bl))
        pss_nil)
      (pss_cons (ps_if (pt_cmpR op_ne (pe_callB call_len (by rfl) T.n_len (by decide +kernel) (pa_cons (pv 0) pa_nil)) (pe_callB call_len (by rfl) T.n_len (by decide +kernel) (pa_cons (pv 1) pa_nil)) (nomark _))
        (pss_one (ps_ret pe_bl))
        pss_nil)
      (pss_one (ps_ret (pe_callB (cr_all rfl) (by rfl) T.n_all (by decide +kernel) (pa_cons (pe_lc (own := [("at", 2)]) (g := gName 2) (tt := tYes) rfl sc__law_equal.nd (pi_range1 rfl T.n_range (pa_cons (pe_callB call_len (by rfl) T.n_len (by decide +kernel) (pa_cons (pv 1) pa_nil)) pa_nil)) (blkOk_by (own := [("at", 2)]) (N := N__law_equal) (sc := defScope s__law_equal) (by decide +kernel)) (fun _ _ _ _ _ => pg_name (i := 2) sc__law_equal.nd rfl (Or.inl rfl)) (fun _ _ _ _ _ => pts_nil) (fun _ _ _ _ _ => (pe_call ih (hr.mono (by omega)) rfl T.m__law_equal T.F__law_equal.kp T.b__law_equal .nil pass0 (pa_cons (pe_ix (r := rIx K) ix_seq (pv 0) (pv 2) (fun _ _ => rfl)) (pa_cons (pe_ix (r := rIx K) ix_seq (pv 1) (pv 2) (fun _ _ => rfl)) pa_nil))))) pa_nil))))))))))), ?_⟩
      cases hd with
      | non => exact ⟨_, rfl, rfl, _, rfl, ifD (fun _ => ⟨_, rfl, rfl, by rw [decide_eq_true rfl]; exact k _ (Same.refl _)⟩) (fun e => absurd rfl e)⟩
      | bl _ b =>
        refine ⟨_, rfl, rfl, _, rfl, ifD (fun e => by cases e) (fun _ => ?_)⟩
        refine ⟨_, rfl, _, _, _, _, _, rfl, .ty _, (Ty.bl b).x, isaN (by simp [My.six]) (by simp [My.six]), _, rfl, ifTr (by decide) ?_⟩
        refine ⟨_, rfl, _, _, _, _, _, rfl, .ty _, (Ty.bl b).x, isaN (by simp [My.six]) (by simp [My.six]), _, rfl, ifTr (by decide) ?_⟩
        refine ⟨_, rfl, _, rfl, rfl, ?_⟩
        rw [decide_eq_true rfl]; exact k _ (Same.refl _)
      | int _ i =>
        refine ⟨_, rfl, rfl, _, rfl, ifD (fun e => by cases e) (fun _ => ?_)⟩
        refine ⟨_, rfl, _, _, _, _, _, rfl, .ty _, (Ty.int i).x, isaN (by simp [My.six]) (by simp [My.six]), _, rfl, ifFa (by decide) ?_⟩
        refine ⟨_, rfl, _, _, _, _, _, rfl, .ty _, (Ty.int i).x, isaN (by simp [My.six]) (by simp [My.six]), _, rfl, ifTr (by decide) ?_⟩
        refine ⟨_, rfl, _, _, rfl, .int _, _, rfl, ifTr (by decide) ?_⟩
        refine ⟨_, rfl, _, rfl, rfl, ?_⟩
        rw [decide_eq_true rfl]; exact k _ (Same.refl _)
      | str _ x =>
        refine ⟨_, rfl, rfl, _, rfl, ifD (fun e => by cases e) (fun _ => ?_)⟩
        refine ⟨_, rfl, _, _, _, _, _, rfl, .ty _, (Ty.str x).x, isaN (by simp [My.six]) (by simp [My.six]), _, rfl, ifFa (by decide) ?_⟩
        refine ⟨_, rfl, _, _, _, _, _, rfl, .ty _, (Ty.str x).x, isaN (by simp [My.six]) (by simp [My.six]), _, rfl, ifFa (by decide) ?_⟩
        refine ⟨_, rfl, _, _, _, _, _, rfl, .ty _, (Ty.str x).x, isaN (by simp [My.six]) (by simp [My.six]), _, rfl, ifTr (by decide) ?_⟩
        refine ⟨_, rfl, _, _, _, _, _, rfl, .ty _, (Ty.str x).x, isaN (by simp [My.six]) (by simp [My.six]), _, rfl, ifTr (by decide) ?_⟩
        refine ⟨_, rfl, _, rfl, rfl, ?_⟩
        rw [decide_eq_true rfl]; exact k _ (Same.refl _)
      | @lst _ a b xs ys h1 h2 hl hz h =>
        have hu : True := trivial
        (refine ⟨_, rfl, rfl, _, rfl, ifD (fun e => by cases e) (fun _ => ?_)⟩
         refine ⟨_, rfl, _, _, _, _, _, rfl, .ty _, (Ty.lst h2).x, isaN (by simp [My.six]) (by simp [My.six]), _, rfl, ifFa (by decide) ?_⟩
         refine ⟨_, rfl, _, _, _, _, _, rfl, .ty _, (Ty.lst h2).x, isaN (by simp [My.six]) (by simp [My.six]), _, rfl, ifFa (by decide) ?_⟩
         refine ⟨_, rfl, _, _, _, _, _, rfl, .ty _, (Ty.lst h2).x, isaN (by simp [My.six]) (by simp [My.six]), _, rfl, ifFa (by decide) ?_⟩
         refine ⟨_, rfl, _, _, _, _, _, rfl, .ty _, (Ty.lst h2).x, isaN (by simp [My.six]) (by simp [My.six]), _, rfl, ifFa (by decide) (ifFa rfl ?_)⟩
         refine ⟨_, rfl, _, _, _, _, _, rfl, .ty _, (Ty.lst h2).x, isaN (by simp [My.six]) (by simp [My.six]), _, rfl, ifTr (by decide) ⟨_, rfl, _, _, _, _, _, rfl, .ty _, (Ty.lst h1).x, isaN (by simp [My.six]) (by simp [My.six]), _, rfl, ifFa (by decide) ?_⟩⟩
         refine ⟨_, rfl, _, _, rfl, .inl ⟨_, h1, rfl⟩, _, rfl, _, _, rfl, .inl ⟨_, h2, rfl⟩, rfl, _, rfl, ?_⟩
         refine ifND (fun e => absurd (by rw [hl]) e) (fun _ => ?_)
         refine ⟨_, rfl, _, _, rfl, .inl ⟨_, h2, rfl⟩, ys.length, rfl, by omega, by omega, fun D hD => lc_range (lo := 0) (n := ys.length) (fun i H' => Same H H' ∧ H' D = some (.lst ((List.replicate i true).map V.bl))) ⟨same_new hD, upd_same⟩ ?_ ?_⟩
         · rintro i H1 hi ⟨hS, hD1⟩
           have hx := get_at (xs := xs) (i := i) (by omega)
           have hy := get_at (xs := ys) (i := i) (by omega)
           refine ⟨rfl, ?_⟩
           refine ⟨_, rfl, _, rfl, .inl ⟨_, _, _, _, rfl, rfl, hS.seq h1, at_of (Int.zero_add _) hx, ?_⟩⟩
           refine ⟨_, rfl, _, rfl, .inl ⟨_, _, _, _, rfl, rfl, hS.seq h2, at_of (Int.zero_add _) hy, ?_⟩⟩
           refine ⟨_, _, rfl, (h i _ _ hx hy).same hS, fun H2 hS2 => ?_⟩
           refine ⟨_, hS2.get hD1, by rw [List.length_map, List.length_replicate]; exact Nat.lt_of_lt_of_le (Nat.lt_of_lt_of_le hi hz) (by decide), (hS.trans hS2).put hD, ?_⟩
           · rw [upd_same, List.replicate_succ', List.map_append]; rfl
         · rintro H1 ⟨hS, hD1⟩
           refine ⟨_, _, rfl, SqL.of hD1, ?_⟩
           rw [show (List.replicate ys.length true).all id = true from by rw [List.all_eq_true]; intro x hx; rw [List.eq_of_mem_replicate hx]; rfl]
           exact k _ hS)
      | @tup _ a b xs ys h1 h2 hl hz h =>
        have hu : True := trivial
        (refine ⟨_, rfl, rfl, _, rfl, ifD (fun e => by cases e) (fun _ => ?_)⟩
         refine ⟨_, rfl, _, _, _, _, _, rfl, .ty _, (Ty.tup h2).x, isaN (by simp [My.six]) (by simp [My.six]), _, rfl, ifFa (by decide) ?_⟩
         refine ⟨_, rfl, _, _, _, _, _, rfl, .ty _, (Ty.tup h2).x, isaN (by simp [My.six]) (by simp [My.six]), _, rfl, ifFa (by decide) ?_⟩
         refine ⟨_, rfl, _, _, _, _, _, rfl, .ty _, (Ty.tup h2).x, isaN (by simp [My.six]) (by simp [My.six]), _, rfl, ifFa (by decide) ?_⟩
         refine ⟨_, rfl, _, _, _, _, _, rfl, .ty _, (Ty.tup h2).x, isaN (by simp [My.six]) (by simp [My.six]), _, rfl, ifTr (by decide) ⟨_, rfl, _, _, _, _, _, rfl, .ty _, (Ty.tup h1).x, isaN (by simp [My.six]) (by simp [My.six]), _, rfl, ifFa (by decide) ?_⟩⟩
         refine ⟨_, rfl, _, _, _, _, _, rfl, .ty _, (Ty.tup h2).x, isaN (by simp [My.six]) (by simp [My.six]), _, rfl, ifFa (by decide) (ifFa rfl ?_)⟩
         refine ⟨_, rfl, _, _, rfl, .inr ⟨_, h1, rfl⟩, _, rfl, _, _, rfl, .inr ⟨_, h2, rfl⟩, rfl, _, rfl, ?_⟩
         refine ifND (fun e => absurd (by rw [hl]) e) (fun _ => ?_)
         refine ⟨_, rfl, _, _, rfl, .inr ⟨_, h2, rfl⟩, ys.length, rfl, by omega, by omega, fun D hD => lc_range (lo := 0) (n := ys.length) (fun i H' => Same H H' ∧ H' D = some (.lst ((List.replicate i true).map V.bl))) ⟨same_new hD, upd_same⟩ ?_ ?_⟩
         · rintro i H1 hi ⟨hS, hD1⟩
           have hx := get_at (xs := xs) (i := i) (by omega)
           have hy := get_at (xs := ys) (i := i) (by omega)
           refine ⟨rfl, ?_⟩
           refine ⟨_, rfl, _, rfl, .inr (.inl ⟨_, _, _, _, rfl, rfl, tSame hS h1, at_of (Int.zero_add _) hx, ?_⟩)⟩
           refine ⟨_, rfl, _, rfl, .inr (.inl ⟨_, _, _, _, rfl, rfl, tSame hS h2, at_of (Int.zero_add _) hy, ?_⟩)⟩
           refine ⟨_, _, rfl, (h i _ _ hx hy).same hS, fun H2 hS2 => ?_⟩
           refine ⟨_, hS2.get hD1, by rw [List.length_map, List.length_replicate]; exact Nat.lt_of_lt_of_le (Nat.lt_of_lt_of_le hi hz) (by decide), (hS.trans hS2).put hD, ?_⟩
           · rw [upd_same, List.replicate_succ', List.map_append]; rfl
         · rintro H1 ⟨hS, hD1⟩
           refine ⟨_, _, rfl, SqL.of hD1, ?_⟩
           rw [show (List.replicate ys.length true).all id = true from by rw [List.all_eq_true]; intro x hx; rw [List.eq_of_mem_replicate hx]; rfl]
           exact k _ hS)

theorem ok__law_point (T : Txt K mg) (TB : TxtB T base w) : FnOk P w K mg base CX0 2 T.a__law_point T.d__law_point ["stream", "far"] (fun vs H Q _ => ∃ (s : Addr) (far : Int) (b : Addr), vs = [.ref s, .int far] ∧ 0 ≤ far ∧ far ≤ 1000000 ∧ Strm H s b ∧ ∀ (a : Addr) (x y : Int) H', In far x y → Strm H' s b → But s H H' → SqT K H' a [.int x, .int y] → Q (.ref a) H') := by
  refine T.F__law_point.ok sc__law_point (fun vs H Q E h => ?_) (fun cdv A outer s H vs Q E hr h => ?_)
  · obtain ⟨s, far, b, rfl, f0, f1, S, k⟩ := h
    rfl
  · obtain ⟨s, far, b, rfl, f0, f1, S, k⟩ := h
    refine ⟨_, (pss_one (ps_ret (pe_tup (pa_cons (pe_op op_sub (pe_call (ok__law_next T TB) (hr.mono (by omega)) rfl T.m__law_next T.F__law_next.kp T.b__law_next .nil pass0 (pa_cons (pv 0) (pa_cons (pe_op op_add (pe_op op_mul pe_int (pv 1)) pe_int) pa_nil))) (pv 1)) (pa_cons (pe_op op_sub (pe_call (ok__law_next T TB) (hr.mono (by omega)) rfl T.m__law_next T.F__law_next.kp T.b__law_next .nil pass0 (pa_cons (pv 0) (pa_cons (pe_op op_add (pe_op op_mul pe_int (pv 1)) pe_int) pa_nil))) (pv 1)) pa_nil))))), ?_⟩
    refine ⟨_, rfl, _, rfl, _, _, rfl, rfl, .inl ⟨by decide, by decide⟩, _, _, rfl, rfl, _, _, _, rfl, by omega, by omega, S, fun d H1 d0 d1 S1 B1 => ?_⟩
    refine ⟨_, rfl, _, _, rfl, rfl, _, rfl, _, rfl, _, _, rfl, rfl, .inl ⟨by decide, by decide⟩, _, _, rfl, rfl, _, _, _, rfl, by omega, by omega, S1, fun e H2 e0 e1 S2 B2 => ?_⟩
    refine ⟨_, rfl, _, _, rfl, rfl, small rfl, fun p hp => ?_⟩
    exact k p (d - far) (e - far) _ ⟨by omega, by omega, by omega, by omega⟩ (S2.over hp) ((B1.trans B2).then_new hp) tHere

theorem ok__law_far (T : Txt K mg) (TB : TxtB T base w) : FnOk P w K mg base CX0 2 T.a__law_far T.d__law_far ["stream"] (fun vs H Q _ => ∃ (s b : Addr), vs = [.ref s] ∧ Strm H s b ∧ ∀ (far : Int) H', Far far → Strm H' s b → But s H H' → Q (.int far) H') := by
  refine T.F__law_far.ok sc__law_far (fun vs H Q E h => ?_) (fun cdv A outer s H vs Q E hr h => ?_)
  · obtain ⟨s, b, rfl, S, k⟩ := h
    rfl
  · obtain ⟨s, b, rfl, S, k⟩ := h
    refine ⟨_, (pss_one (ps_ret (pe_ix (r := rIxL K) ix_list (pe_lst (pa_cons pe_int (pa_cons pe_int (pa_cons pe_int (pa_cons pe_int pa_nil))))) (pe_call (ok__law_next T TB) (hr.mono (by omega)) rfl T.m__law_next T.F__law_next.kp T.b__law_next .nil pass0 (pa_cons (pv 0) (pa_cons pe_int pa_nil))) (fun _ _ => rfl)))), ?_⟩
    refine ⟨small rfl, fun p hp => ?_⟩
    refine ⟨_, rfl, _, _, _, rfl, by decide, by decide, S.over hp, fun d H1 d0 d1 S1 B1 => ?_⟩
    obtain ⟨v, hv, hf⟩ := atFour (a := V.int 2) (b := .int 4) (c := .int 9) (d := .int 1000) d0 d1
    refine ⟨_, _, _, _, rfl, rfl, SqL.of (rBut B1 hp S), hv, ?_⟩
    have B : But s H H1 := (But.new hp).trans B1
    rcases hf with rfl | rfl | rfl | rfl
    · exact k 2 _ (.inl rfl) S1 B
    · exact k 4 _ (.inr (.inl rfl)) S1 B
    · exact k 9 _ (.inr (.inr (.inl rfl))) S1 B
    · exact k 1000 _ (.inr (.inr (.inr rfl))) S1 B

theorem ok__law_gap (T : Txt K mg) (TB : TxtB T base w) : FnOk P w K mg base CX0 3 T.a__law_gap T.d__law_gap ["p", "a", "b"] (fun vs H Q _ => ∃ (p a c : Addr) (px py ax ay bx dy : Int), vs = [.ref p, .ref a, .ref c] ∧ SqT K H p [.int px, .int py] ∧ SqT K H a [.int ax, .int ay] ∧ SqT K H c [.int bx, .int dy] ∧ On px py ∧ On ax ay ∧ On bx dy ∧ ¬ (ax = bx ∧ ay = dy) ∧ ∀ q, H q = none → Q (.ref q) (upd H q (.tup [.int (gN px py ax ay bx dy), .int (gD px py ax ay bx dy)]))) := by
  refine T.F__law_gap.ok sc__law_gap (fun vs H Q E h => ?_) (fun cdv A outer s H vs Q E hr h => ?_)
  · obtain ⟨p, a, c, px, py, ax, ay, bx, dy, rfl, hp, ha, hc, op, oa, oc, ne, k⟩ := h
    rfl
  · obtain ⟨p, a, c, px, py, ax, ay, bx, dy, rfl, hp, ha, hc, op, oa, oc, ne, k⟩ := h
    refine ⟨_, (pss_cons (ps_set (i := 3) sc__law_gap.nd rfl (Or.inl rfl) (pe_op op_add (pe_op op_mul (pe_op op_sub (pe_ix (r := rIxT K) ix_tup (pv 0) pe_int (fun _ _ => rfl)) (pe_ix (r := rIxT K) ix_tup (pv 1) pe_int (fun _ _ => rfl))) (pe_op op_sub (pe_ix (r := rIxT K) ix_tup (pv 2) pe_int (fun _ _ => rfl)) (pe_ix (r := rIxT K) ix_tup (pv 1) pe_int (fun _ _ => rfl)))) (pe_op op_mul (pe_op op_sub (pe_ix (r := rIxT K) ix_tup (pv 0) pe_int (fun _ _ => rfl)) (pe_ix (r := rIxT K) ix_tup (pv 1) pe_int (fun _ _ => rfl))) (pe_op op_sub (pe_ix (r := rIxT K) ix_tup (pv 2) pe_int (fun _ _ => rfl)) (pe_ix (r := rIxT K) ix_tup (pv 1) pe_int (fun _ _ => rfl))))))
      (pss_cons (ps_set (i := 4) sc__law_gap.nd rfl (Or.inl rfl) (pe_op op_add (pe_op op_mul (pe_op op_sub (pe_ix (r := rIxT K) ix_tup (pv 2) pe_int (fun _ _ => rfl)) (pe_ix (r := rIxT K) ix_tup (pv 1) pe_int (fun _ _ => rfl))) (pe_op op_sub (pe_ix (r := rIxT K) ix_tup (pv 2) pe_int (fun _ _ => rfl)) (pe_ix (r := rIxT K) ix_tup (pv 1) pe_int (fun _ _ => rfl)))) (pe_op op_mul (pe_op op_sub (pe_ix (r := rIxT K) ix_tup (pv 2) pe_int (fun _ _ => rfl)) (pe_ix (r := rIxT K) ix_tup (pv 1) pe_int (fun _ _ => rfl))) (pe_op op_sub (pe_ix (r := rIxT K) ix_tup (pv 2) pe_int (fun _ _ => rfl)) (pe_ix (r := rIxT K) ix_tup (pv 1) pe_int (fun _ _ => rfl))))))
      (pss_cons (ps_set (i := 5) sc__law_gap.nd rfl (Or.inl rfl) (pe_callB (call_max2 rfl) (by rfl) T.n_max (by decide +kernel) (pa_cons pe_int (pa_cons (pe_callB (call_min2 rfl) (by rfl) T.n_min (by decide +kernel) (pa_cons (pv 4) (pa_cons (pv 3) pa_nil))) pa_nil))))
      (pss_cons (ps_set (i := 6) sc__law_gap.nd rfl (Or.inl rfl) (pe_op op_sub (pe_op op_mul (pe_op op_sub (pe_ix (r := rIxT K) ix_tup (pv 0) pe_int (fun _ _ => rfl)) (pe_ix (r := rIxT K) ix_tup (pv 1) pe_int (fun _ _ => rfl))) (pv 4)) (pe_op op_mul (pv 5) (pe_op op_sub (pe_ix (r := rIxT K) ix_tup (pv 2) pe_int (fun _ _ => rfl)) (pe_ix (r := rIxT K) ix_tup (pv 1) pe_int (fun _ _ => rfl))))))
      (pss_cons (ps_set (i := 7) sc__law_gap.nd rfl (Or.inl rfl) (pe_op op_sub (pe_op op_mul (pe_op op_sub (pe_ix (r := rIxT K) ix_tup (pv 0) pe_int (fun _ _ => rfl)) (pe_ix (r := rIxT K) ix_tup (pv 1) pe_int (fun _ _ => rfl))) (pv 4)) (pe_op op_mul (pv 5) (pe_op op_sub (pe_ix (r := rIxT K) ix_tup (pv 2) pe_int (fun _ _ => rfl)) (pe_ix (r := rIxT K) ix_tup (pv 1) pe_int (fun _ _ => rfl))))))
      (pss_one (ps_ret (pe_call (ok__law_low T TB) (hr.mono (by omega)) rfl T.m__law_low T.F__law_low.kp T.b__law_low .nil pass0 (pa_cons (pe_op op_add (pe_op op_mul (pv 6) (pv 6)) (pe_op op_mul (pv 7) (pv 7))) (pa_cons (pe_op op_mul (pv 4) (pv 4)) pa_nil)))))))))), ?_⟩
    have vd := oc.d oa
    have ud := op.d oa
    obtain ⟨hs, _, _, bn, bd⟩ := gap_ok op oa oc ne
    have sl := sq_le vd
    have cl := clamp_le (dot_le ud vd) sl
    have gl := gap_le ud vd cl sl
    refine ⟨_, rfl, _, _, _, _, rfl, rfl, hp, at0, _, rfl, _, _, _, _, rfl, rfl, ha, at0, _, _, rfl, rfl, _, rfl, _, _, _, _, rfl, rfl, hc, at0, _, rfl, _, _, _, _, rfl, rfl, ha, at0, _, _, rfl, rfl, _, _, rfl, rfl, .inl (m64 ud.1), _, rfl, _, _, _, _, rfl, rfl, hp, at1, _, rfl, _, _, _, _, rfl, rfl, ha, at1, _, _, rfl, rfl, _, rfl, _, _, _, _, rfl, rfl, hc, at1, _, rfl, _, _, _, _, rfl, rfl, ha, at1, _, _, rfl, rfl, _, _, rfl, rfl, .inl (m64 ud.2), _, _, rfl, rfl, ?_⟩
    refine ⟨_, rfl, _, _, _, _, rfl, rfl, hc, at0, _, rfl, _, _, _, _, rfl, rfl, ha, at0, _, _, rfl, rfl, _, rfl, _, _, _, _, rfl, rfl, hc, at0, _, rfl, _, _, _, _, rfl, rfl, ha, at0, _, _, rfl, rfl, _, _, rfl, rfl, .inl (m64 vd.1), _, rfl, _, _, _, _, rfl, rfl, hc, at1, _, rfl, _, _, _, _, rfl, rfl, ha, at1, _, _, rfl, rfl, _, rfl, _, _, _, _, rfl, rfl, hc, at1, _, rfl, _, _, _, _, rfl, rfl, ha, at1, _, _, rfl, rfl, _, _, rfl, rfl, .inl (m64 vd.2), _, _, rfl, rfl, ?_⟩
    dsimp only
    refine ⟨_, rfl, _, rfl, _, _, rfl, _, _, rfl, ?_⟩
    dsimp only
    rw [show (bx - ax) * (bx - ax) + (dy - ay) * (dy - ay) = sq (bx - ax) (dy - ay) from rfl, show (px - ax) * (bx - ax) + (py - ay) * (dy - ay) = dot (px - ax) (py - ay) (bx - ax) (dy - ay) from rfl, clamp_law hs]
    refine ⟨_, rfl, _, _, _, _, rfl, rfl, hp, at0, _, rfl, _, _, _, _, rfl, rfl, ha, at0, _, _, rfl, rfl, _, rfl, _, _, rfl, rfl, .inl (m64 ud.1), _, rfl, _, rfl, _, _, _, _, rfl, rfl, hc, at0, _, rfl, _, _, _, _, rfl, rfl, ha, at0, _, _, rfl, rfl, _, _, rfl, rfl, .inr (m64 vd.1), _, _, rfl, rfl, ?_⟩
    refine ⟨_, rfl, _, _, _, _, rfl, rfl, hp, at1, _, rfl, _, _, _, _, rfl, rfl, ha, at1, _, _, rfl, rfl, _, rfl, _, _, rfl, rfl, .inl (m64 ud.2), _, rfl, _, rfl, _, _, _, _, rfl, rfl, hc, at1, _, rfl, _, _, _, _, rfl, rfl, ha, at1, _, _, rfl, rfl, _, _, rfl, rfl, .inr (m64 vd.2), _, _, rfl, rfl, ?_⟩
    exact ⟨_, rfl, _, rfl, _, _, rfl, rfl, .inl (m64 gl.1), _, rfl, _, rfl, _, _, rfl, rfl, .inl (m64 gl.2.1), _, _, rfl, rfl, _, rfl, _, rfl, _, _, rfl, rfl, .inl (m64 sl), _, _, rfl, show sq (bx - ax) (dy - ay) * sq (bx - ax) (dy - ay) ≠ 0 from mul_ne hs hs, pow_up gl.2.2, pow_up (mul_le sl sl), fun r hr => k r hr⟩

theorem ok_law (T : Txt K mg) (TB : TxtB T base w) : FnOk P w K mg base CX0 13 T.a_law T.d_law ["script"] (spLawT K T.ts) := by
  refine T.F_law.ok sc_law (fun vs H Q E h => ?_) (fun cdv A outer s H vs Q E hr h => ?_)
  · obtain ⟨w0, ns, rfl, hS, hlen, tb, k⟩ := h
    rfl
  · obtain ⟨w0, ns, rfl, hS, hlen, tb, k⟩ := h
    refine ⟨_, (pss_cons (ps_set (i := 1) sc_law.nd rfl (Or.inl rfl) (pe_call (ok__law_stream T TB) (hr.mono (by omega)) rfl T.m__law_stream T.F__law_stream.kp T.b__law_stream .nil pass0 (pa_cons (pv 0) pa_nil)))
      (pss_cons (ps_set (i := 2) sc_law.nd rfl (Or.inl rfl) (pe_call (ok__law_far T TB) (hr.mono (by omega)) rfl T.m__law_far T.F__law_far.kp T.b__law_far .nil pass0 (pa_cons (pv 1) pa_nil)))
      (pss_cons (ps_set (i := 3) sc_law.nd rfl (Or.inl rfl) (pe_ix (r := rIxL K) ix_list (pe_lst (pa_cons (pe_op op_add pe_int (pe_call (ok__law_next T TB) (hr.mono (by omega)) rfl T.m__law_next T.F__law_next.kp T.b__law_next .nil pass0 (pa_cons (pv 1) (pa_cons pe_int pa_nil)))) (pa_cons pe_int pa_nil))) (pe_callTy call_int1 (by rfl) T.n_int (by decide +kernel) (pa_cons (pe_cmpR op_eq (pe_call (ok__law_next T TB) (hr.mono (by omega)) rfl T.m__law_next T.F__law_next.kp T.b__law_next .nil pass0 (pa_cons (pv 1) (pa_cons pe_int pa_nil))) pe_int (nomark _)) pa_nil)) (fun _ _ => rfl)))
      (pss_cons (ps_set (i := 4) sc_law.nd rfl (Or.inl rfl) (pe_lst (pa_cons (pe_call (ok__law_point T TB) (hr.mono (by omega)) rfl T.m__law_point T.F__law_point.kp T.b__law_point .nil pass0 (pa_cons (pv 1) (pa_cons (pv 2) pa_nil))) pa_nil)))
      (pss_cons (ps_for PassesOwn.never rfl (pi_range1 rfl T.n_range (pa_cons (pe_op op_sub (pv 3) pe_int) pa_nil)) (pg_name (i := 5) sc_law.nd rfl (Or.inl rfl))
        (pss_cons (ps_set (i := 6) sc_law.nd rfl (Or.inl rfl) (pe_call (ok__law_point T TB) (hr.mono (by omega)) rfl T.m__law_point T.F__law_point.kp T.b__law_point .nil pass0 (pa_cons (pv 1) (pa_cons (pv 2) pa_nil))))
        (C8.pss_cut (ps_if (pt_cmpR (op_eqP hr.units) (pv 6) (pe_ix (r := rIxL K) ix_list (pv 4) (pe_un un_neg pe_int) (fun _ _ => rfl)) (nomark _))
          (pss_one (ps_set (i := 6) sc_law.nd rfl (Or.inl rfl) (pe_tup (pa_cons (pe_ix (r := rIxT K) ix_tup (pv 6) pe_int (fun _ _ => rfl)) (pa_cons (pe_op op_sub (pe_op op_add (pe_ix (r := rIxT K) ix_tup (pv 6) pe_int (fun _ _ => rfl)) pe_int) (pe_op op_mul pe_int (pe_callTy call_int1 (by rfl) T.n_int (by decide +kernel) (pa_cons (pe_cmpR op_eq (pe_ix (r := rIxT K) ix_tup (pv 6) pe_int (fun _ _ => rfl)) (pv 2) (nomark _)) pa_nil)))) pa_nil)))))
          pss_nil)
        (pss_one (ps_expr (pe_bm PySem.F.plainAttrs_list PySem.F.slot_list_append PySem.F.type_list_append mt_append (pv 4) (pa_cons (pv 6) pa_nil)))))))
      (pss_cons (ps_set (i := 4) sc_law.nd rfl (Or.inl rfl) (pe_callTy call_tuple_of (by rfl) T.n_tuple (by decide +kernel) (pa_cons (pv 4) pa_nil)))
      (pss_cons (ps_set (i := 6) sc_law.nd rfl (Or.inl rfl) (pe_call (ok__law_point T TB) (hr.mono (by omega)) rfl T.m__law_point T.F__law_point.kp T.b__law_point .nil pass0 (pa_cons (pv 1) (pa_cons (pv 2) pa_nil))))
      (pss_cons (ps_set (i := 7) sc_law.nd rfl (Or.inl rfl) pe_non)
      (pss_cons (ps_for PassesOwn.never rfl (pi_range1 rfl T.n_range (pa_cons (pe_op op_sub (pv 3) pe_int) pa_nil)) (pg_name (i := 8) sc_law.nd rfl (Or.inl rfl))
        (pss_cons (ps_set (i := 9) sc_law.nd rfl (Or.inl rfl) (pe_call (ok__law_gap T TB) (hr.mono (by omega)) rfl T.m__law_gap T.F__law_gap.kp T.b__law_gap .nil pass0 (pa_cons (pv 6) (pa_cons (pe_ix (r := rIxT K) ix_tup (pv 4) (pv 8) (fun _ _ => rfl)) (pa_cons (pe_ix (r := rIxT K) ix_tup (pv 4) (pe_op op_add (pv 8) pe_int) (fun _ _ => rfl)) pa_nil)))))
        (pss_one (ps_if (PW.pt (pw_or (pt_cmpR op_isN (pv 7) pe_non (nomark _)) (pw_or1 (pt_cmpR op_lt (pe_op op_mulW (pe_ix (r := rIxT K) ix_tup (pv 9) pe_int (fun _ _ => rfl)) (pe_ix (r := rIxT K) ix_tup (pe_ix (r := rIxT K) ix_tup (pv 7) pe_int (fun _ _ => rfl)) pe_int (fun _ _ => rfl))) (pe_op op_mulW (pe_ix (r := rIxT K) ix_tup (pe_ix (r := rIxT K) ix_tup (pv 7) pe_int (fun _ _ => rfl)) pe_int (fun _ _ => rfl)) (pe_ix (r := rIxT K) ix_tup (pv 9) pe_int (fun _ _ => rfl))) (nomark _)))))
          (pss_one (ps_set (i := 7) sc_law.nd rfl (Or.inl rfl) (pe_tup (pa_cons (pv 8) (pa_cons (pv 9) pa_nil)))))
          pss_nil))))
      (pss_cons (ps_if (PW.pt (pw_or (pt_not (pt_val (pe_call (ok__law_equal T TB 4) (hr.mono (by omega)) rfl T.m__law_equal T.F__law_equal.kp T.b__law_equal .nil pass0 (pa_cons (pe_call (ok_nearest_edge T TB) (hr.mono (by omega)) rfl T.m_nearest_edge T.F_nearest_edge.kp T.b_nearest_edge .nil pass0 (pa_cons (pv 6) (pa_cons (pv 4) pa_nil))) (pa_cons (pv 7) pa_nil))))) (pw_or (pt_cmpR op_isnot_bl (pe_call (ok_is_line T TB) (hr.mono (by omega)) rfl T.m_is_line T.F_is_line.kp T.b_is_line .nil pass0 (pa_cons (pv 4) pa_nil)) pe_bl (nomark _)) (pw_or1 (pt_cmpR op_isnot_bl (pe_call (ok_is_point T TB) (hr.mono (by omega)) rfl T.m_is_point T.F_is_point.kp T.b_is_point .nil pass0 (pa_cons (pv 6) pa_nil)) pe_bl (nomark _))))))
        (pss_one (ps_ret pe_bl))
        pss_nil)
      (pss_cons (ps_set (i := 10) sc_law.nd rfl (Or.inl rfl) (pe_ix (r := rIxT K) ix_tup (pv 4) pe_int (fun _ _ => rfl)))
      (pss_cons (ps_set (i := 11) sc_law.nd rfl (Or.inl rfl) (pe_ix (r := rIxT K) ix_tup (pv 4) pe_int (fun _ _ => rfl)))
      (pss_cons (ps_set (i := 12) sc_law.nd rfl (Or.inl rfl) (pe_tup (pa_cons (pe_callB (call_minP rfl hr.units) (by rfl) T.n_min (by decide +kernel) (pa_cons (pv 10) (pa_cons (pv 11) pa_nil))) (pa_cons (pe_callB (call_maxP rfl hr.units) (by rfl) T.n_max (by decide +kernel) (pa_cons (pv 10) (pa_cons (pv 11) pa_nil))) pa_nil))))
      (pss_cons (ps_if (pt_cmpR op_isnot_bl (pe_call (ok_is_segment T TB) (hr.mono (by omega)) rfl T.m_is_segment T.F_is_segment.kp T.b_is_segment .nil pass0 (pa_cons (pv 12) pa_nil)) pe_bl (nomark _))
        (pss_one (ps_ret pe_bl))
        pss_nil)
      (pss_cons (ps_set (i := 13) sc_law.nd rfl (Or.inl rfl) (pe_ix (r := rIxL K) ix_list (pe_lst (pa_cons (pe_tup (pa_cons pe_int (pa_cons pe_int pa_nil))) (pa_cons (pe_tup (pa_cons pe_int (pa_cons (pe_un un_neg pe_int) pa_nil))) (pa_cons (pe_lst (pa_cons pe_int (pa_cons pe_int pa_nil))) (pa_cons (pe_tup (pa_cons pe_int pa_nil)) (pa_cons (pe_tup (pa_cons pe_int (pa_cons pe_int (pa_cons pe_int pa_nil)))) (pa_cons (pe_tup (pa_cons pe_bl (pa_cons pe_int pa_nil))) (pa_cons pe_non (pa_cons pe_str (pa_cons (pe_tup (pa_cons (pe_tup (pa_cons pe_int (pa_cons pe_int pa_nil))) (pa_cons pe_int pa_nil))) pa_nil)))))))))) (pe_call (ok__law_next T TB) (hr.mono (by omega)) rfl T.m__law_next T.F__law_next.kp T.b__law_next .nil pass0 (pa_cons (pv 1) (pa_cons pe_int pa_nil))) (fun _ _ => rfl)))
      (pss_cons (ps_set (i := 8) sc_law.nd rfl (Or.inl rfl) (pe_call (ok__law_next T TB) (hr.mono (by omega)) rfl T.m__law_next T.F__law_next.kp T.b__law_next .nil pass0 (pa_cons (pv 1) (pa_cons (pv 3) pa_nil))))
      (pss_cons (ps_set (i := 14) sc_law.nd rfl (Or.inl rfl) (pe_lst (pa_cons (pe_op op_catA (pe_op op_catA (pe_slice sl_tupA (pv 4) po_none (po_some (pv 8))) (pe_tup (pa_cons (pe_ix (r := rIxT K) ix_tup (pv 4) (pv 8) (fun _ _ => rfl)) pa_nil))) (pe_slice sl_tupA (pv 4) (po_some (pv 8)) po_none)) (pa_cons (pe_callTy call_list_of (by rfl) T.n_list (by decide +kernel) (pa_cons (pv 4) pa_nil)) (pa_cons (pe_slice sl_tupA (pv 4) po_none (po_some pe_int)) (pa_cons (pe_tup pa_nil) (pa_cons (pe_op op_catA (pe_op op_catA (pe_slice sl_tupA (pv 4) po_none (po_some (pv 8))) (pe_tup (pa_cons (pv 13) pa_nil))) (pe_slice sl_tupA (pv 4) (po_some (pv 8)) po_none)) (pa_cons pe_non pa_nil))))))))
      (pss_cons (ps_expr (pe_bm PySem.F.plainAttrs_list PySem.F.slot_list_append PySem.F.type_list_append mt_append (pv 14) (pa_cons (pe_op op_catA (pe_op op_repT (pe_tup (pa_cons (pe_tup (pa_cons pe_int (pa_cons pe_int pa_nil))) (pa_cons (pe_tup (pa_cons pe_int (pa_cons pe_int pa_nil))) pa_nil))) pe_int) (pe_tup (pa_cons (pe_tup (pa_cons pe_int (pa_cons pe_int pa_nil))) pa_nil))) pa_nil)))
      (pss_cons (ps_set (i := 15) sc_law.nd rfl (Or.inl rfl) (pe_lst (pa_cons (pe_rev2 (pv 12)) (pa_cons (pe_tup (pa_cons (pv 10) (pa_cons (pv 10) pa_nil))) (pa_cons (pe_callTy call_list_of (by rfl) T.n_list (by decide +kernel) (pa_cons (pv 12) pa_nil)) (pa_cons (pe_op op_catA (pv 12) (pv 12)) (pa_cons (pe_tup (pa_cons (pv 10) (pa_cons (pv 13) pa_nil))) (pa_cons (pe_tup (pa_cons (pv 13) (pa_cons (pv 11) pa_nil))) (pa_cons pe_non (pa_cons (pv 10) pa_nil))))))))))
      (pss_cons (ps_set (i := 16) sc_law.nd rfl (Or.inl rfl) (pe_lst (pa_cons (pe_call (ok_is_point T TB) (hr.mono (by omega)) rfl T.m_is_point T.F_is_point.kp T.b_is_point .nil pass0 (pa_cons (pv 13) pa_nil)) (pa_cons (pe_call (ok_is_line T TB) (hr.mono (by omega)) rfl T.m_is_line T.F_is_line.kp T.b_is_line .nil pass0 (pa_cons (pe_ix (r := rIxL K) ix_list (pv 14) (pe_call (ok__law_next T TB) (hr.mono (by omega)) rfl T.m__law_next T.F__law_next.kp T.b__law_next .nil pass0 (pa_cons (pv 1) (pa_cons pe_int pa_nil))) (fun _ _ => rfl)) pa_nil)) (pa_cons (pe_call (ok_is_segment T TB) (hr.mono (by omega)) rfl T.m_is_segment T.F_is_segment.kp T.b_is_segment .nil pass0 (pa_cons (pe_ix (r := rIxL K) ix_list (pv 15) (pe_call (ok__law_next T TB) (hr.mono (by omega)) rfl T.m__law_next T.F__law_next.kp T.b__law_next .nil pass0 (pa_cons (pv 1) (pa_cons pe_int pa_nil))) (fun _ _ => rfl)) pa_nil)) pa_nil)))))
      (pss_one (ps_ret (pe_call (ok__law_equal T TB 4) (hr.mono (by omega)) rfl T.m__law_equal T.F__law_equal.kp T.b__law_equal .nil pass0 (pa_cons (pv 16) (pa_cons (pe_lst (pa_cons pe_bl (pa_cons pe_bl (pa_cons pe_bl pa_nil)))) pa_nil))))))))))))))))))))))))), ?_⟩
    have fin := k
    refine ⟨_, rfl, _, ns, rfl, hS, fun H1 s b e1 n1 S1 => ?_⟩
    have tb := tb.same e1
    refine ⟨_, rfl, _, _, rfl, S1, fun far H2 hf S2 B2 => ?_⟩
    have tb := tb.but B2 S1.lst
    have hf' := hf.le
    refine ⟨_, rfl, _, _, _, rfl, by decide, by decide, S2, fun d3 H3 d30 d31 S3 B3 => ⟨_, _, rfl, rfl, small rfl, fun L3 w3 => ?_⟩⟩
    have tb := (tb.but B3 S2.lst).over (o := HO.lst [V.int (2 + d3), V.int 40]) w3
    refine ⟨_, rfl, _, _, _, rfl, by decide, by decide, S3.over w3, fun d4 H4 d40 d41 S4 B4 => ?_⟩
    have tb := tb.but B4 (S3.over w3).lst
    have hL3 := rBut B4 w3 S3
    obtain ⟨m, hm, m0, m1⟩ : ∃ m : Int, atI [V.int (2 + d3), V.int 40] (if decide (V.int d4 = V.int 0) = true then 1 else 0) = some (V.int m) ∧ 2 ≤ m ∧ m ≤ 40 := by
      by_cases e : decide (V.int d4 = V.int 0) = true
      · rw [if_pos e]; exact ⟨40, at1, by omega, by omega⟩
      · rw [if_neg e]; exact ⟨2 + d3, at0, by omega, by omega⟩
    obtain ⟨n, rfl⟩ : ∃ n : Nat, m = n := ⟨m.toNat, by omega⟩
    refine ⟨rfl, .inr ⟨_, rfl, _, _, _, _, rfl, rfl, SqL.of hL3, hm, ?_⟩⟩
    clear hm hL3 w3 B4 B3 B2 S3 S2 S1 n1 e1
    refine ⟨_, rfl, _, rfl, _, _, _, rfl, by omega, by omega, S4, fun a0 x0 y0 H5 i0 S5 B5 hp0 => ⟨small rfl, fun D hD => ?_⟩⟩
    have tb := (tb.but B5 S4.lst).over (o := HO.lst [V.ref a0]) hD
    have nDs : D ≠ s := S5.new1 hD
    have nDb : D ≠ b := S5.new2 hD
    refine ⟨_, rfl, _, _, rfl, rfl, _, rfl, by omega, by omega, for_range (lo := 0) (n := ((n : Int) - 1).toNat) (fun i σ H' => ∃ (zs : List Zp) (o5 o6 : Option V), σ = [some (.ref w0), some (.ref s), some (.int far), some (.int n), some (.ref D), o5, o6, none, none, none, none, none, none, none, none, none, none] ∧ Strm H' s b ∧ H' D = some (.lst (refs zs)) ∧ zs.length = i + 1 ∧ Pts K H' zs ∧ (∀ z ∈ zs, In far z.2.1 z.2.2) ∧ Ne zs ∧ Tbs T.ts H')
      ⟨[(a0, x0, y0)], none, none, rfl, S5.over hD, upd_same, rfl, .one (tOver hD hp0), fun z hz => by rw [List.mem_singleton] at hz; rw [hz]; exact i0, fun i u w h1 h2 => by simp at h2, tb⟩ ?_ ?_⟩
    · rintro i σ H6 hi ⟨zs, o5, o6, rfl, S6, hD6, hz, hp, hin, hne, tb⟩
      refine ⟨_, rfl, _, rfl, _, _, _, rfl, by omega, by omega, S6, fun a1 x1 y1 H7 i1 S7 B7 hp1 => ?_⟩
      have tb := tb.but B7 S6.lst
      have hD7 := B7.get nDs hD6
      have hp := hp.but B7 S6
      obtain ⟨ys, zl, rfl⟩ : ∃ ys zl, zs = ys ++ [zl] := ⟨zs.dropLast, zs.getLast (fun z => by rw [z] at hz; cases hz), (List.dropLast_concat_getLast _).symm⟩
      have hlast : atI (refs (ys ++ [zl])) (-1) = some (V.ref zl.1) := by rw [show refs (ys ++ [zl]) = refs ys ++ [V.ref zl.1] from List.map_append]; exact atI_last _ _
      refine ⟨fun σ' H' => ∃ (a2 : Addr) (x2 y2 : Int) (o5 : Option V), σ' = [some (.ref w0), some (.ref s), some (.int far), some (.int n), some (.ref D), o5, some (.ref a2), none, none, none, none, none, none, none, none, none, none] ∧ Strm H' s b ∧ H' D = some (.lst (refs (ys ++ [zl]))) ∧ Pts K H' (ys ++ [zl]) ∧ SqT K H' a2 [.int x2, .int y2] ∧ In far x2 y2 ∧ ¬ (zl.2.1 = x2 ∧ zl.2.2 = y2) ∧ Tbs T.ts H', ?_, ?_⟩
      · refine ⟨_, rfl, _, rfl, _, rfl, _, _, _, _, rfl, rfl, SqL.of hD7, hlast, _, _, _, _, _, _, rfl, rfl, hp1, hp zl (by simp), _, rfl, ifD (fun e => ?_) (fun e => ⟨a1, x1, y1, _, rfl, S7, hD7, hp, hp1, i1, fun z => e ⟨z.1.symm, z.2.symm⟩, tb⟩)⟩
        refine ⟨_, rfl, _, _, _, _, rfl, rfl, hp1, at0, _, rfl, _, _, _, _, rfl, rfl, hp1, at1, _, _, rfl, rfl, _, rfl, _, _, _, _, rfl, rfl, hp1, at1, _, rfl, rfl, .inr ⟨_, rfl, _, _, rfl, rfl, .inl ⟨by decide, by decide⟩, _, _, rfl, rfl, small rfl, fun q hq => ?_⟩⟩
        refine ⟨q, x1, _, _, rfl, S7.over hq, rOver hq hD7, hp.over hq, tHere, ?_, ?_, tb.over hq⟩
        · unfold In at i1 ⊢
          by_cases e2 : y1 = far
          · rw [decide_eq_true (by rw [e2])]; simp only [if_true]; omega
          · rw [decide_eq_false (fun z => e2 (by injection z))]; simp only [Bool.false_eq_true, if_false]; omega
        · rintro ⟨-, z2⟩
          by_cases e2 : y1 = far
          · rw [decide_eq_true (by rw [e2])] at z2; simp only [if_true] at z2; omega
          · rw [decide_eq_false (fun z => e2 (by injection z))] at z2; simp only [Bool.false_eq_true, if_false] at z2; omega
      · rintro σ' H8 ⟨a2, x2, y2, o5', rfl, S8, hD8, hp, hp2, i2, nd, tb⟩
        refine ⟨_, rfl, tyL hD8, _, rfl, _, _, _, rfl, rfl, hD8, by rw [List.length_map, hz]; exact line_of (by omega), ?_⟩
        refine ⟨ys ++ [zl] ++ [(a2, x2, y2)], _, _, rfl, S8.at nDs nDb, by rw [upd_same]; simp, by rw [List.length_append, hz]; rfl, ((hp.at ⟨_, hD8⟩).app (.one (tAt ⟨_, hD8⟩ hp2))), fun z h => ?_, fun j u w h1 h2 => ?_, tb.put ⟨_, hD8⟩⟩
        · rcases List.mem_append.mp h with h | h
          · exact hin z h
          · rw [List.mem_singleton] at h; rw [h]; exact i2
        · have hj := (List.getElem?_eq_some_iff.mp h2).1
          rw [List.length_append] at hj
          have hj : j + 1 < (ys ++ [zl]).length + 1 := hj
          rw [List.getElem?_append_left (by omega)] at h1
          by_cases e : j + 1 < (ys ++ [zl]).length
          · rw [List.getElem?_append_left e] at h2
            exact hne j u w h1 h2
          · rw [List.getElem?_append_right (by omega)] at h2
            have e3 : j = ys.length := by simp at e hj; omega
            subst e3
            simp at h1 h2
            subst h1 h2
            exact nd
    rintro σ H6 ⟨zs, o5, o6, rfl, S6, hD6, hz, hp6, hin, hne, tb⟩
    have hz : zs.length = n := by omega
    refine ⟨_, rfl, _, _, rfl, .inl ⟨SqL.of hD6, fun t ht => ?_⟩⟩
    have hln : LnAt K (upd H6 t (.tup (refs zs))) t zs := ⟨tHere, hp6.over ht, fun z h => (hin z h).on hf'.2⟩
    have tb := tb.over (o := HO.tup (refs zs)) ht
    have hok : LnOk zs := ⟨by omega, by omega, hne⟩
    refine ⟨_, rfl, _, rfl, _, _, _, rfl, by omega, by omega, S6.over ht, fun p px py H8 ip S8 B8 hp => ?_⟩
    have op := ip.on hf'.2
    have tb := tb.but B8 (S6.over ht).lst
    have hln := hln.but B8 (S6.over ht)
    clear hin hp6 ip hp0 i0 S6 S5 S4 B8 B5 hD6 hf hf' d30 d31 d40 d41 ht nDs nDb hD
    -- the nearest edge, worked out by the law
    refine ⟨_, rfl, _, _, rfl, rfl, _, rfl, by omega, by omega, for_range (lo := 0) (n := ((n : Int) - 1).toNat) (fun i σ H' => ∃ (bst : V) (o5 o8 o9 : Option V), σ = [some (.ref w0), some (.ref s), some (.int far), some (.int n), some (.ref t), o5, some (.ref p), some bst, o8, o9, none, none, none, none, none, none, none] ∧ Same H8 H' ∧
      ((i = 0 ∧ bst = .non) ∨ (0 < i ∧ ∃ r f, bst = .ref r ∧ SqT K H' r [.int (bI (gF px py zs) i : Nat), .ref f] ∧ Gp K H' f (gF px py zs (bI (gF px py zs) i)))))
      ⟨.non, _, none, none, rfl, Same.refl _, .inl ⟨rfl, rfl⟩⟩ ?_ ?_⟩
    · rintro i σ H9 hi ⟨bst, o5, o8, o9, rfl, s9, hbst⟩
      obtain ⟨u, u1⟩ : ∃ u, zs[i]? = some u := ⟨_, List.getElem?_eq_getElem (by omega)⟩
      obtain ⟨w, w2⟩ : ∃ u, zs[i + 1]? = some u := ⟨_, List.getElem?_eq_getElem (by omega)⟩
      have hln9 := hln.same s9
      have ou := hln.on _ (List.mem_of_getElem? u1)
      have ow := hln.on _ (List.mem_of_getElem? w2)
      have nd := hne i u w u1 w2
      have r1 : (refs zs)[i]? = some (.ref u.1) := by rw [List.getElem?_map, u1]; rfl
      have r2 : (refs zs)[i + 1]? = some (.ref w.1) := by rw [List.getElem?_map, w2]; rfl
      refine ⟨_, rfl, _, rfl, _, rfl, _, _, _, _, rfl, rfl, hln9.t, at_of (Int.zero_add _) r1, _, rfl, _, rfl, _, _, rfl, rfl, _, _, _, _, rfl, rfl, hln9.t, at_of (by omega) r2, ?_⟩
      refine ⟨_, _, _, _, _, _, _, _, _, rfl, tSame s9 hp, hln9.p.get u1, hln9.p.get w2, op, ou, ow, nd, fun q hq => ?_⟩
      have e9 := same_new (o := HO.tup [.int (gN px py u.2.1 u.2.2 w.2.1 w.2.2), .int (gD px py u.2.1 u.2.2 w.2.1 w.2.2)]) hq
      have gq : Gp K (upd H9 q (.tup [.int (gN px py u.2.1 u.2.2 w.2.1 w.2.2), .int (gD px py u.2.1 u.2.2 w.2.1 w.2.2)])) q (gF px py zs i) := .edge u1 w2 op ou ow nd tHere
      generalize upd H9 q (.tup [.int (gN px py u.2.1 u.2.2 w.2.1 w.2.2), .int (gD px py u.2.1 u.2.2 w.2.1 w.2.2)]) = H10 at e9 gq ⊢
      have s10 := s9.trans e9
      rcases hbst with ⟨rfl, rfl⟩ | ⟨hpos, r, f, rfl, hr, gf⟩
      · refine ⟨_, rfl, rfl, _, rfl, ifTr rfl (iteT ?_)⟩
        exact ⟨_, rfl, _, rfl, small rfl, fun r hr => ⟨_, _, _, _, rfl, same_then s10 hr, .inr ⟨by omega, r, q, rfl, by rw [bI_one]; exact tHere, by rw [bI_one]; exact gq.same (same_new hr)⟩⟩⟩
      · refine ⟨_, rfl, rfl, _, rfl, ifFa (decide_eq_false fun z => by cases z) ?_⟩
        have hr := tSame e9 hr
        have gf := gf.same e9
        refine ⟨_, rfl, _, _, _, _, rfl, rfl, gq.at_, at0, _, rfl, _, _, _, _, rfl, rfl, hr, at1, _, _, _, _, rfl, rfl, gf.at_, at1, _, _, rfl, rfl, wide gq.bn gf.bd, _, rfl, _, _, _, _, rfl, rfl, hr, at1, _, _, _, _, rfl, rfl, gf.at_, at0, _, rfl, _, _, _, _, rfl, rfl, gq.at_, at1, _, _, rfl, rfl, wide gf.bn gq.bd, _, _, rfl, rfl, _, rfl, ifD (fun e => ?_) (fun e => ?_)⟩
        · exact ⟨_, rfl, _, rfl, small rfl, fun r hr => ⟨_, _, _, _, rfl, same_then s10 hr, .inr ⟨by omega, r, q, rfl, by rw [bI, if_pos e]; exact (congrArg (fun j => SqT K (upd H10 r (HO.tup [V.int (0 + (i : Int)), V.ref q])) r [V.int j, V.ref q]) (Int.zero_add (i : Int))).mp tHere, by rw [bI, if_pos e]; exact gq.same (same_new hr)⟩⟩⟩
        · exact ⟨_, _, _, _, rfl, s10, .inr ⟨by omega, r, f, rfl, by rw [bI, if_neg e]; exact hr, by rw [bI, if_neg e]; exact gf⟩⟩
    rintro σ H9 ⟨bst, o5', o8, o9, rfl, s9, hbst⟩
    rw [show ((n : Int) - 1).toNat = zs.length - 1 by omega] at hbst
    rcases hbst with ⟨z, _⟩ | ⟨_, r, f, rfl, hr, gf⟩
    · omega
    have tb := tb.same s9
    have hln := hln.same s9
    have hp := tSame s9 hp
    have S9 := S8.same s9
    refine ⟨_, rfl, _, rfl, _, _, _, _, _, rfl, hp, op, hln, hok, tb, fun r2 f2 H10 s10 hr2 hf2 => ⟨_, rfl, _, _, rfl, .tup hr2 (tSame s10 hr) rfl (Nat.le_of_ble_eq_true rfl) (two_get (.int 2 _) (.tup hf2.at_ (gf.same s10).at_ rfl (Nat.le_of_ble_eq_true rfl) (two_get (.int 1 _) (.int 1 _)))), fun H11 s11 => ?_⟩⟩
    have s111 := s10.trans s11
    have tb := tb.same s111
    have hln := hln.same s111
    have hp := tSame s111 hp
    have S11 := S9.same s111
    clear hr2 hf2 hr gf s111 s11 s10 S9 s9 S8
    -- the second half
    refine ⟨_, rfl, ifFa rfl ?_⟩
    refine ⟨_, rfl, _, _, rfl, .good hln (by omega) hok, tb, fun H12 s12 => ⟨_, _, rfl, rfl, _, rfl, ifFa rfl ?_⟩⟩
    refine ⟨_, rfl, _, _, rfl, .pt (tSame s12 hp) op, _, _, rfl, rfl, _, rfl, ifFa rfl ?_⟩
    have tb := tb.same s12
    have hln := hln.same s12
    have S := S11.same s12
    clear hp op s12 S11
    obtain ⟨u0, z0⟩ : ∃ u, zs[0]? = some u := ⟨_, List.getElem?_eq_getElem (by omega)⟩
    obtain ⟨u1, z1⟩ : ∃ u, zs[1]? = some u := ⟨_, List.getElem?_eq_getElem (by omega)⟩
    have m0' := List.mem_of_getElem? z0
    have m1' := List.mem_of_getElem? z1
    have r0 : (refs zs)[0]? = some (.ref u0.1) := by rw [List.getElem?_map, z0]; rfl
    have r1 : (refs zs)[1]? = some (.ref u1.1) := by rw [List.getElem?_map, z1]; rfl
    refine ⟨_, rfl, _, _, _, _, rfl, rfl, hln.t, at_of rfl r0, ?_⟩
    refine ⟨_, rfl, _, _, _, _, rfl, rfl, hln.t, at_of rfl r1, ?_⟩
    refine ⟨_, rfl, _, rfl, _, _, _, _, _, _, rfl, hln.get m0', hln.get m1', _, rfl, _, rfl, _, _, _, _, _, _, rfl, hln.get m0', hln.get m1', small rfl, fun gd hgd => ?_⟩
    obtain ⟨lo, hi, elo, ehi, mlo, mhi, lt⟩ : ∃ lo hi : Zp, (if ltP u1.2.1 u1.2.2 u0.2.1 u0.2.2 = true then u1.1 else u0.1) = lo.1 ∧ (if ltP u0.2.1 u0.2.2 u1.2.1 u1.2.2 = true then u1.1 else u0.1) = hi.1 ∧ lo ∈ zs ∧ hi ∈ zs ∧ ltP lo.2.1 lo.2.2 hi.2.1 hi.2.2 = true := by
      by_cases l : ltP u0.2.1 u0.2.2 u1.2.1 u1.2.2 = true
      · exact ⟨u0, u1, by rw [ltP_not l]; rfl, by rw [l]; rfl, m0', m1', l⟩
      · rw [Bool.not_eq_true] at l
        have l2 := ltP_or (hne 0 u0 u1 z0 z1) l
        exact ⟨u1, u0, by rw [l2]; rfl, by rw [l]; rfl, m1', m0', l2⟩
    rw [elo, ehi]
    have hg : SqT K (upd H12 gd (.tup [.ref lo.1, .ref hi.1])) gd [.ref lo.1, .ref hi.1] := tHere
    have hln := hln.same (same_new (o := HO.tup [.ref lo.1, .ref hi.1]) hgd)
    have tb := tb.over (o := HO.tup [.ref lo.1, .ref hi.1]) hgd
    have S := S.over (o := HO.tup [.ref lo.1, .ref hi.1]) hgd
    generalize upd H12 gd (.tup [.ref lo.1, .ref hi.1]) = G0 at hg hln tb S ⊢
    have olo := hln.on _ mlo
    have ohi := hln.on _ mhi
    have o0 := hln.on _ m0'
    have o1 := hln.on _ m1'
    refine ⟨_, rfl, _, _, rfl, .two hg (hln.get mlo) (hln.get mhi) olo ohi lt, _, _, rfl, rfl, _, rfl, ifFa rfl ?_⟩
    clear elo ehi hgd
    -- values that are no points
    have B0 : BL (PVf K) G0 G0 s b [] := BL.nil S
    refine ⟨small rfl, fun q0 w0 => ?_⟩
    have e0 := same_new (o := HO.tup [.int 1001, .int 0]) w0
    have B1 := B0.step e0 (fun H' q => PV.tup (xs := [.int 1001, .int 0]) (tButS q (B0.S.over w0) tHere) (two_ints) (by decide))
    have tb := tb.same e0
    have hln := hln.same e0
    have hg := tSame e0 hg
    refine ⟨_, rfl, small rfl, fun q1 w1 => ?_⟩
    have e1 := same_new (o := HO.tup [.int 0, .int (-1001)]) w1
    have B2 := B1.step e1 (fun H' q => PV.tup (xs := [.int 0, .int (-1001)]) (tButS q (B1.S.over w1) tHere) (two_ints) (by decide))
    have tb := tb.same e1
    have hln := hln.same e1
    have hg := tSame e1 hg
    refine ⟨small rfl, fun q2 w2 => ?_⟩
    have e2 := same_new (o := HO.lst [.int 0, .int 0]) w2
    have B3 := B2.step e2 (fun H' q => PV.no (.lst (SqL.of (q.get (B2.S.new1 w2) upd_same))) (by decide))
    have tb := tb.same e2
    have hln := hln.same e2
    have hg := tSame e2 hg
    refine ⟨small rfl, fun q3 w3 => ?_⟩
    have e3 := same_new (o := HO.tup [.int 0]) w3
    have B4 := B3.step e3 (fun H' q => PV.tup (xs := [.int 0]) (tButS q (B3.S.over w3) tHere) (sc_ty rfl) (by decide))
    have tb := tb.same e3
    have hln := hln.same e3
    have hg := tSame e3 hg
    refine ⟨small rfl, fun q4 w4 => ?_⟩
    have e4 := same_new (o := HO.tup [.int 0, .int 0, .int 0]) w4
    have B5 := B4.step e4 (fun H' q => PV.tup (xs := [.int 0, .int 0, .int 0]) (tButS q (B4.S.over w4) tHere) (sc_ty rfl) (by decide))
    have tb := tb.same e4
    have hln := hln.same e4
    have hg := tSame e4 hg
    refine ⟨small rfl, fun q5 w5 => ?_⟩
    have e5 := same_new (o := HO.tup [.bl true, .int 0]) w5
    have B6 := B5.step e5 (fun H' q => PV.tup (xs := [.bl true, .int 0]) (tButS q (B5.S.over w5) tHere) (sc_ty rfl) (by decide))
    have tb := tb.same e5
    have hln := hln.same e5
    have hg := tSame e5 hg
    have B7 := B6.here (v := V.non) (fun _ _ => PV.no .non (by decide))
    have B8 := B7.here (v := V.str "ab") (fun _ _ => PV.no (.str _) (by decide))
    refine ⟨small rfl, fun qi wi => ?_⟩
    have ei := same_new (o := HO.tup [.int 0, .int 1]) wi
    have B8 := B8.go (But.of_same ei) (B8.S.over wi)
    have tb := tb.same ei
    have hln := hln.same ei
    have hg := tSame ei hg
    refine ⟨small rfl, fun q8 w8 => ?_⟩
    have e8 := same_new (o := HO.tup [.ref qi, .int 0]) w8
    have B9 := B8.step e8 (fun H' q => PV.tup (xs := [.ref qi, .int 0]) (tButS q (B8.S.over w8) tHere) (two_ty (.tup (tButS q (B8.S.over w8) (tOver w8 tHere))) (.int _)) rfl)
    have tb := tb.same e8
    have hln := hln.same e8
    have hg := tSame e8 hg
    refine ⟨small rfl, fun L wL => ?_⟩
    refine ⟨_, rfl, _, _, _, rfl, by decide, by decide, B9.S.over wL, fun d5 H5' d50 d51 S eB => ?_⟩
    have SL := B9.S.over (o := HO.lst [V.ref q0, V.ref q1, V.ref q2, V.ref q3, V.ref q4, V.ref q5, .non, .str "ab", V.ref q8]) wL
    have hL := rBut eB wL B9.S
    have eB := (But.new (s := s) (o := HO.lst [V.ref q0, V.ref q1, V.ref q2, V.ref q3, V.ref q4, V.ref q5, .non, .str "ab", V.ref q8]) wL).trans eB
    obtain ⟨np, hv, hm⟩ := atAny (xs := [V.ref q0, V.ref q1, V.ref q2, V.ref q3, V.ref q4, V.ref q5, .non, .str "ab", V.ref q8]) d50 d51
    refine ⟨_, _, _, _, rfl, rfl, SqL.of hL, hv, ?_⟩
    have hnp := (B9.F np hm).but eB
    have tb := tb.but eB B9.S.lst
    have hln := hln.but eB B9.S
    have hg := tButS eB B9.S hg
    refine ⟨_, rfl, _, rfl, _, _, _, rfl, by omega, by omega, S, fun at_ G d60 d61 S' eB => ?_⟩
    obtain ⟨k, rfl⟩ : ∃ k : Nat, at_ = k := ⟨at_.toNat, by omega⟩
    have hnp := hnp.but eB
    have tb := tb.but eB S.lst
    have hln := hln.but eB S
    have hg := tButS eB S hg
    obtain ⟨zk, hk⟩ : ∃ u, zs[k]? = some u := ⟨_, List.getElem?_eq_getElem (by omega)⟩
    have rk : (refs zs)[k]? = some (.ref zk.1) := by rw [List.getElem?_map, hk]; rfl
    have big : 1000 ≤ sizeLine := by decide
    have hz40 : (refs zs).length ≤ 40 := by rw [List.length_map]; omega
    -- values that are no lines
    have C9 : BL (LnVf K) G G s b [] := BL.nil S'
    refine ⟨_, rfl, _, rfl, _, rfl, ?_⟩
    refine slA_of hln.t fun c9 K9 s9 h9 => ?_
    rw [cut_take, ← List.map_take] at h9
    refine ⟨_, rfl, _, rfl, _, _, _, _, rfl, rfl, tSame s9 hln.t, atI_nat rk, small rfl, fun p9 v9 => ?_⟩
    refine catA_of (tOver v9 h9) tHere (by rw [List.length_map, List.length_take]; show _ + 1 ≤ _; omega) fun q9 M9 f9 j9 => ?_
    have g9 := (s9.trans (same_new (o := HO.tup [.ref zk.1]) v9)).trans f9
    refine ⟨_, rfl, _, rfl, _, rfl, ?_⟩
    refine noPart (slA_of (tSame g9 hln.t) fun c9' K9' s9' h9' => ?_)
    rw [cut_drop, ← List.map_drop] at h9'
    refine catA_of (tSame s9' j9) h9' (by rw [List.length_append, List.length_map, List.length_take, List.length_map, List.length_drop]; show _ + 1 + _ ≤ _; omega) fun q9 M9' f9' j9' => ?_
    have e9 := (g9.trans s9').trans f9'
    rw [List.append_assoc] at j9'
    have C10 := C9.step e9 (by
      have hh : LnAt K _ _ (zs.take k ++ zk :: zs.drop k) := (hln.same e9).sub (mem_dup hk) (by rw [show refs (zs.take k ++ zk :: zs.drop k) = (zs.take k).map (fun z => V.ref z.1) ++ ([V.ref zk.1] ++ (zs.drop k).map (fun z => V.ref z.1)) from List.map_append]; exact j9')
      exact fun H' q => LnV.not (hh.but q (C9.S.same e9)) (len_dup (by omega)) (dup_not hk))
    have tb := tb.same e9
    have hln := hln.same e9
    have hg := tSame e9 hg
    have hnp := hnp.but (But.of_same e9)
    refine ⟨_, rfl, _, _, rfl, .inr hln.t, fun q10 w10 => ?_⟩
    have e10 := same_new (o := HO.lst (refs zs)) w10
    have C11 := C10.step e10 (fun H' q => LnV.no (.lst (SqL.of (q.get (C10.S.new1 w10) upd_same))) (by decide))
    have tb := tb.same e10
    have hln := hln.same e10
    have hg := tSame e10 hg
    have hnp := hnp.but (But.of_same e10)
    refine ⟨_, rfl, _, rfl, ?_⟩
    refine slA_of hln.t fun q11 K11 e11 j11 => ?_
    rw [show ((1 : Int)) = ((1 : Nat) : Int) from rfl, cut_take, ← List.map_take] at j11
    have hh11 : LnAt K _ _ (zs.take 1) := (hln.same e11).sub (fun z h => List.mem_of_mem_take h) j11
    have C12 := C11.step e11 (fun H' q => LnV.not (hh11.but q (C11.S.same e11)) (by rw [List.length_take]; omega) (fun z => by have := z.1; rw [List.length_take] at this; omega))
    have tb := tb.same e11
    have hln := hln.same e11
    have hg := tSame e11 hg
    have hnp := hnp.but (But.of_same e11)
    refine ⟨small rfl, fun q12 w12 => ?_⟩
    have e12 := same_new (o := HO.tup []) w12
    have C13 := C12.step e12 (fun H' q => LnV.not (zs := []) ⟨tButS q (C12.S.over w12) tHere, fun _ h => (by cases h), fun _ h => (by cases h)⟩ (by simp) (fun z => by have := z.1; simp at this))
    have tb := tb.same e12
    have hln := hln.same e12
    have hg := tSame e12 hg
    have hnp := hnp.but (But.of_same e12)
    refine ⟨_, rfl, _, rfl, _, rfl, ?_⟩
    refine slA_of hln.t fun c13 K13 s13 h13 => ?_
    rw [cut_take, ← List.map_take] at h13
    refine ⟨_, rfl, small rfl, fun p13 v13 => ?_⟩
    refine catA_of (tOver v13 h13) tHere (by rw [List.length_map, List.length_take]; show _ + 1 ≤ _; omega) fun q13 M13 f13 j13 => ?_
    have g13 := (s13.trans (same_new (o := HO.tup [np]) v13)).trans f13
    refine ⟨_, rfl, _, rfl, _, rfl, ?_⟩
    refine noPart (slA_of (tSame g13 hln.t) fun c13' K13' s13' h13' => ?_)
    rw [cut_drop, ← List.map_drop] at h13'
    refine catA_of (tSame s13' j13) h13' (by rw [List.length_append, List.length_map, List.length_take, List.length_map, List.length_drop]; show _ + 1 + _ ≤ _; omega) fun q13 M13' f13' j13' => ?_
    have e13 := (g13.trans s13').trans f13'
    rw [List.append_assoc] at j13'
    have C14 := C13.step e13 (by
      have pw := fun H' (q : But s _ H') => (hln.same e13).but q (C13.S.same e13)
      exact fun H' q => LnV.bad (us := zs.take k) (ws := zs.drop k) (tButS q (C13.S.same e13) j13') (fun z h => (pw H' q).p z (List.mem_of_mem_take h)) (fun z h => hln.on z (List.mem_of_mem_take h)) (fun z h => (pw H' q).p z (List.mem_of_mem_drop h)) (fun z h => hln.on z (List.mem_of_mem_drop h)) ((hnp.but (But.of_same e13)).but q).here (by rw [List.length_take, List.length_drop]; omega))
    have tb := tb.same e13
    have hln := hln.same e13
    have hg := tSame e13 hg
    have hnp := hnp.but (But.of_same e13)
    have C15 := C14.here (v := V.non) (fun _ _ => LnV.no .non (by decide))
    refine ⟨small rfl, fun NL wNL => ?_⟩
    have nNL := C15.S.new1 wNL
    have nNLb := C15.S.new2 wNL
    have SM := C15.S
    have hNL : (upd M13' NL (HO.lst [V.ref q9, V.ref q10, V.ref q11, V.ref q12, V.ref q13, V.non])) NL = some (.lst [V.ref q9, V.ref q10, V.ref q11, V.ref q12, V.ref q13, V.non]) := upd_same
    refine ⟨_, rfl, tyL hNL, small rfl, fun qa wa => ⟨small rfl, fun qb wb => ⟨small rfl, fun qc wc => ⟨_, _, _, rfl, rfl, tHere, (by simp), by decide, by decide, (by simp), fun qd wd => ?_⟩⟩⟩⟩
    refine ⟨small rfl, fun qe we => ⟨small rfl, fun qf wf => ?_⟩⟩
    refine catA_of (tOver wf (tOver we tHere)) tHere (small rfl) fun qg Mg fg jg => ?_
    have ha : SqT K Mg qa [.int 0, .int 0] := tSame fg (tOver wf (tOver we (tOver wd (tOver wc (tOver wb tHere)))))
    have hb : SqT K Mg qb [.int 1, .int 0] := tSame fg (tOver wf (tOver we (tOver wd (tOver wc tHere))))
    have hc : SqT K Mg qe [.int 0, .int 0] := tSame fg (tOver wf tHere)
    have eA : Same (upd M13' NL (HO.lst [V.ref q9, V.ref q10, V.ref q11, V.ref q12, V.ref q13, V.non])) Mg := (((((((same_new wa).trans (same_new wb)).trans (same_new wc)).trans (same_new wd)).trans (same_new we)).trans (same_new wf)).trans fg)
    have zin : ∀ z ∈ (List.replicate 20 [((qa, 0, 0) : Zp), (qb, 1, 0)]).flatten ++ [(qe, 0, 0)], z = (qa, 0, 0) ∨ z = (qb, 1, 0) ∨ z = (qe, 0, 0) := by
      intro z hz
      rcases List.mem_append.mp hz with hz | hz
      · obtain ⟨l, h1, h2⟩ := List.mem_flatten.mp hz
        rw [List.eq_of_mem_replicate h1] at h2
        simp only [List.mem_cons, List.not_mem_nil, or_false] at h2
        rcases h2 with h2 | h2
        · exact .inl h2
        · exact .inr (.inl h2)
      · exact .inr (.inr (List.mem_singleton.mp hz))
    have hh : LnAt K Mg qg ((List.replicate 20 [((qa, 0, 0) : Zp), (qb, 1, 0)]).flatten ++ [(qe, 0, 0)]) := ⟨jg, fun z hz => by
      rcases zin z hz with rfl | rfl | rfl
      · exact ha
      · exact hb
      · exact hc, fun z hz => by
      rcases zin z hz with rfl | rfl | rfl
      · show On 0 0; unfold On; omega
      · show On 1 0; unfold On; omega
      · show On 0 0; unfold On; omega⟩
    have hNLg := eA.get hNL
    refine ⟨_, _, _, rfl, rfl, hNLg, line_of (by simp), ?_⟩
    have e0 := (same_new (o := HO.lst [V.ref q9, V.ref q10, V.ref q11, V.ref q12, V.ref q13, V.non]) wNL).trans eA
    have eM : But s M13' (upd Mg NL (.lst ([V.ref q9, V.ref q10, V.ref q11, V.ref q12, V.ref q13, V.non] ++ [V.ref qg]))) := (But.of_same e0).put wNL
    have hNL : (upd Mg NL (.lst ([V.ref q9, V.ref q10, V.ref q11, V.ref q12, V.ref q13, V.non] ++ [V.ref qg]))) NL = some (.lst ([V.ref q9, V.ref q10, V.ref q11, V.ref q12, V.ref q13, V.non] ++ [V.ref qg])) := upd_same
    have tb := (tb.same e0).put (o := .lst ([V.ref q9, V.ref q10, V.ref q11, V.ref q12, V.ref q13, V.non] ++ [V.ref qg])) ⟨_, hNLg⟩
    have hln := hln.but eM SM
    have hg := tButS eM SM hg
    have hnp := hnp.but eM
    have S := (SM.same e0).at (o := .lst ([V.ref q9, V.ref q10, V.ref q11, V.ref q12, V.ref q13, V.non] ++ [V.ref qg])) nNL nNLb
    have hh2 : LnAt K (upd Mg NL (.lst ([V.ref q9, V.ref q10, V.ref q11, V.ref q12, V.ref q13, V.non] ++ [V.ref qg]))) qg _ := ⟨tAt ⟨_, hNLg⟩ hh.t, hh.p.at ⟨_, hNLg⟩, hh.on⟩
    have hC : ∀ x ∈ [V.ref q9, V.ref q10, V.ref q11, V.ref q12, V.ref q13, V.non] ++ [V.ref qg], PB (LnVf K) s (upd Mg NL (.lst ([V.ref q9, V.ref q10, V.ref q11, V.ref q12, V.ref q13, V.non] ++ [V.ref qg]))) x := by
      intro x hx
      rcases List.mem_append.mp hx with hx | hx
      · exact (C15.F x hx).but eM
      · rw [List.mem_singleton] at hx
        rw [hx]
        exact fun H' q => LnV.not (hh2.but q S) (by show 41 ≤ 1000; decide) (fun z => absurd (show 41 ≤ 40 from z.2.1) (by decide))
    clear ha hb hc zin hh hh2 jg fg wa wb wc wd we wf eA e0 eM hNLg wNL
    generalize upd Mg NL (.lst ([V.ref q9, V.ref q10, V.ref q11, V.ref q12, V.ref q13, V.non] ++ [V.ref qg])) = GA at hNL tb hln hg hnp S hC ⊢
    have D16 : BL (SgVf K) GA GA s b [] := BL.nil S
    refine ⟨_, rfl, _, _, _, rfl, hg, fun q16 w16 => ?_⟩
    have e16 := same_new (o := HO.tup [.ref hi.1, .ref lo.1]) w16
    have D17 := D16.step e16 (fun H' q => SgV.two (tButS q (D16.S.over w16) tHere) (((hln.same e16).but q (D16.S.over w16)).get mhi) (((hln.same e16).but q (D16.S.over w16)).get mlo) ohi olo (ltP_not lt))
    have tb := tb.same e16
    have hln := hln.same e16
    have hg := tSame e16 hg
    have hnp := hnp.but (But.of_same e16)
    have hNL := e16.get hNL
    have hC := fun x hx => (hC x hx).but (But.of_same e16)
    refine ⟨_, rfl, _, rfl, small rfl, fun q17 w17 => ?_⟩
    have e17 := same_new (o := HO.tup [.ref u0.1, .ref u0.1]) w17
    have D18 := D17.step e17 (fun H' q => SgV.two (tButS q (D17.S.over w17) tHere) (((hln.same e17).but q (D17.S.over w17)).get m0') (((hln.same e17).but q (D17.S.over w17)).get m0') o0 o0 (ltP_self _ _))
    have tb := tb.same e17
    have hln := hln.same e17
    have hg := tSame e17 hg
    have hnp := hnp.but (But.of_same e17)
    have hNL := e17.get hNL
    have hC := fun x hx => (hC x hx).but (But.of_same e17)
    refine ⟨_, rfl, _, _, rfl, .inr hg, fun q18 w18 => ?_⟩
    have e18 := same_new (o := HO.lst [.ref lo.1, .ref hi.1]) w18
    have D19 := D18.step e18 (fun H' q => SgV.no (.lst (SqL.of (q.get (D18.S.new1 w18) upd_same))) (by decide))
    have tb := tb.same e18
    have hln := hln.same e18
    have hg := tSame e18 hg
    have hnp := hnp.but (But.of_same e18)
    have hNL := e18.get hNL
    have hC := fun x hx => (hC x hx).but (But.of_same e18)
    refine ⟨_, rfl, _, rfl, ?_⟩
    refine catA_of hg hg (small rfl) fun q19 K19 e19 j19 => ?_
    have D20 := D19.step e19 (fun H' q => SgV.len (tButS q (D19.S.same e19) j19) (by simp))
    have tb := tb.same e19
    have hln := hln.same e19
    have hg := tSame e19 hg
    have hnp := hnp.but (But.of_same e19)
    have hNL := e19.get hNL
    have hC := fun x hx => (hC x hx).but (But.of_same e19)
    refine ⟨_, rfl, _, rfl, small rfl, fun q20 w20 => ?_⟩
    have e20 := same_new (o := HO.tup [.ref u0.1, np]) w20
    have D21 := D20.step e20 (fun H' q => SgV.bad (tButS q (D20.S.over w20) tHere) (.pt (((hln.same e20).but q (D20.S.over w20)).get m0') o0) ((hnp.but (But.of_same e20)).but q).here rfl)
    have tb := tb.same e20
    have hln := hln.same e20
    have hg := tSame e20 hg
    have hnp := hnp.but (But.of_same e20)
    have hNL := e20.get hNL
    have hC := fun x hx => (hC x hx).but (But.of_same e20)
    refine ⟨_, rfl, _, rfl, small rfl, fun q21 w21 => ?_⟩
    have e21 := same_new (o := HO.tup [np, .ref u1.1]) w21
    have D22 := D21.step e21 (fun H' q => SgV.bad (tButS q (D21.S.over w21) tHere) ((hnp.but (But.of_same e21)).but q).here (.pt (((hln.same e21).but q (D21.S.over w21)).get m1') o1) rfl)
    have tb := tb.same e21
    have hln := hln.same e21
    have hg := tSame e21 hg
    have hnp := hnp.but (But.of_same e21)
    have hNL := e21.get hNL
    have hC := fun x hx => (hC x hx).but (But.of_same e21)
    have D23 := D22.here (v := V.non) (fun _ _ => SgV.no .non (by decide))
    have D24 := D23.here (v := V.ref u0.1) (fun H' q => SgV.bad ((hln.but q D23.S).get m0') (PV.no (.int _) (by decide)) (PV.no (.int _) (by decide)) rfl)
    refine ⟨_, rfl, small rfl, fun SL wSL => ?_⟩
    have nSL := D24.S.new1 wSL
    have hnp := hnp.but (But.new (o := HO.lst [V.ref q16, V.ref q17, V.ref q18, V.ref q19, V.ref q20, V.ref q21, V.non, V.ref u0.1]) wSL)
    refine ⟨_, rfl, _, _, rfl, hnp.here, ?_⟩
    refine ⟨_, rfl, _, rfl, _, _, _, rfl, by decide, by decide, D24.S.over wSL, fun d7 H7 d70 d71 S7 e7 => ?_⟩
    have hSL := rBut e7 wSL D24.S
    have e7' := (But.new (s := s) (o := HO.lst [V.ref q16, V.ref q17, V.ref q18, V.ref q19, V.ref q20, V.ref q21, V.non, V.ref u0.1]) wSL).trans e7
    have hNL := e7'.get nNL hNL
    obtain ⟨v7, hv7, hm7⟩ := atAny (xs := [V.ref q9, V.ref q10, V.ref q11, V.ref q12, V.ref q13, V.non] ++ [V.ref qg]) d70 d71
    refine ⟨_, _, _, _, rfl, rfl, SqL.of hNL, hv7, _, _, rfl, ((hC v7 hm7).but e7').here, tb.but e7' D24.S.lst, fun H8 s8 => ?_⟩
    have hSL := s8.get hSL
    refine ⟨_, rfl, _, rfl, _, _, _, rfl, by decide, by decide, S7.same s8, fun d8 H9 d80 d81 S9 e9 => ?_⟩
    have hSL := e9.get nSL hSL
    obtain ⟨v8, hv8, hm8⟩ := atAny (xs := [V.ref q16, V.ref q17, V.ref q18, V.ref q19, V.ref q20, V.ref q21, V.non, V.ref u0.1]) d80 d81
    have e79 := (e7'.then_same s8).trans e9
    refine ⟨_, _, _, _, rfl, rfl, SqL.of hSL, hv8, _, _, rfl, ((D24.F v8 hm8).but e79).here, small rfl, fun l1 w1 => ?_⟩
    exact ⟨_, rfl, small rfl, fun l2 w2 => ⟨_, _, rfl, .lst (lOver w2 lHere) lHere rfl (Nat.le_of_ble_eq_true rfl) (three_get (.bl _ _) (.bl _ _) (.bl _ _)), fun H' _ => fin _⟩⟩

end
theorem all_mk {l : PySem.W.OpenLaw} {w : World} {K : PySem.W.Frag} {h : Heap} {mg : Str → Option Value} {fa : Addr} {q : Program} (X : K.In h) (G : h.Ns mainGlobals mg) (hfa : mg "law" = some (.ref fa)) (TQ : TabsOf q K h)
    {od_is_whole an_is_whole : Option Addr} {sl_is_whole : Array (Option Value)} {oc_is_whole kV_is_whole dc_is_whole pm_is_whole cd_is_whole ct_is_whole : Value} {f_is_whole : Addr}
    (a_is_whole : PySem.W.nsIn K mainGlobals "is_whole" = some (some (.ref f_is_whole)))
    (l_is_whole : K.lookup f_is_whole = some ⟨oc_is_whole, od_is_whole, .func (PySem.W.fnOf "is_whole" "is_whole" (defArgs s_is_whole) (defBody s_is_whole) (defScope s_is_whole) .none kV_is_whole dc_is_whole pm_is_whole an_is_whole cd_is_whole ct_is_whole), sl_is_whole⟩)
    (c_is_whole : PySem.W.codeIn K cd_is_whole "is_whole" = true) (k_is_whole : PySem.W.keepIn K (.ref f_is_whole) = true)
    {od_is_pair an_is_pair : Option Addr} {sl_is_pair : Array (Option Value)} {oc_is_pair kV_is_pair dc_is_pair pm_is_pair cd_is_pair ct_is_pair : Value} {f_is_pair : Addr}
    (a_is_pair : PySem.W.nsIn K mainGlobals "is_pair" = some (some (.ref f_is_pair)))
    (l_is_pair : K.lookup f_is_pair = some ⟨oc_is_pair, od_is_pair, .func (PySem.W.fnOf "is_pair" "is_pair" (defArgs s_is_pair) (defBody s_is_pair) (defScope s_is_pair) .none kV_is_pair dc_is_pair pm_is_pair an_is_pair cd_is_pair ct_is_pair), sl_is_pair⟩)
    (c_is_pair : PySem.W.codeIn K cd_is_pair "is_pair" = true) (k_is_pair : PySem.W.keepIn K (.ref f_is_pair) = true)
    {od_need an_need : Option Addr} {sl_need : Array (Option Value)} {oc_need kV_need dc_need pm_need cd_need ct_need : Value} {f_need : Addr}
    (a_need : PySem.W.nsIn K mainGlobals "need" = some (some (.ref f_need)))
    (l_need : K.lookup f_need = some ⟨oc_need, od_need, .func (PySem.W.fnOf "need" "need" (defArgs s_need) (defBody s_need) (defScope s_need) .none kV_need dc_need pm_need an_need cd_need ct_need), sl_need⟩)
    (c_need : PySem.W.codeIn K cd_need "need" = true) (k_need : PySem.W.keepIn K (.ref f_need) = true)
    {od_lowest an_lowest : Option Addr} {sl_lowest : Array (Option Value)} {oc_lowest kV_lowest dc_lowest pm_lowest cd_lowest ct_lowest : Value} {f_lowest : Addr}
    (a_lowest : PySem.W.nsIn K mainGlobals "lowest" = some (some (.ref f_lowest)))
    (l_lowest : K.lookup f_lowest = some ⟨oc_lowest, od_lowest, .func (PySem.W.fnOf "lowest" "lowest" (defArgs s_lowest) (defBody s_lowest) (defScope s_lowest) .none kV_lowest dc_lowest pm_lowest an_lowest cd_lowest ct_lowest), sl_lowest⟩)
    (c_lowest : PySem.W.codeIn K cd_lowest "lowest" = true) (k_lowest : PySem.W.keepIn K (.ref f_lowest) = true)
    {od_is_fraction an_is_fraction : Option Addr} {sl_is_fraction : Array (Option Value)} {oc_is_fraction kV_is_fraction dc_is_fraction pm_is_fraction cd_is_fraction ct_is_fraction : Value} {f_is_fraction : Addr}
    (a_is_fraction : PySem.W.nsIn K mainGlobals "is_fraction" = some (some (.ref f_is_fraction)))
    (l_is_fraction : K.lookup f_is_fraction = some ⟨oc_is_fraction, od_is_fraction, .func (PySem.W.fnOf "is_fraction" "is_fraction" (defArgs s_is_fraction) (defBody s_is_fraction) (defScope s_is_fraction) .none kV_is_fraction dc_is_fraction pm_is_fraction an_is_fraction cd_is_fraction ct_is_fraction), sl_is_fraction⟩)
    (c_is_fraction : PySem.W.codeIn K cd_is_fraction "is_fraction" = true) (k_is_fraction : PySem.W.keepIn K (.ref f_is_fraction) = true)
    {od_need_both an_need_both : Option Addr} {sl_need_both : Array (Option Value)} {oc_need_both kV_need_both dc_need_both pm_need_both cd_need_both ct_need_both : Value} {f_need_both : Addr}
    (a_need_both : PySem.W.nsIn K mainGlobals "need_both" = some (some (.ref f_need_both)))
    (l_need_both : K.lookup f_need_both = some ⟨oc_need_both, od_need_both, .func (PySem.W.fnOf "need_both" "need_both" (defArgs s_need_both) (defBody s_need_both) (defScope s_need_both) .none kV_need_both dc_need_both pm_need_both an_need_both cd_need_both ct_need_both), sl_need_both⟩)
    (c_need_both : PySem.W.codeIn K cd_need_both "need_both" = true) (k_need_both : PySem.W.keepIn K (.ref f_need_both) = true)
    {od_less an_less : Option Addr} {sl_less : Array (Option Value)} {oc_less kV_less dc_less pm_less cd_less ct_less : Value} {f_less : Addr}
    (a_less : PySem.W.nsIn K mainGlobals "less" = some (some (.ref f_less)))
    (l_less : K.lookup f_less = some ⟨oc_less, od_less, .func (PySem.W.fnOf "less" "less" (defArgs s_less) (defBody s_less) (defScope s_less) .none kV_less dc_less pm_less an_less cd_less ct_less), sl_less⟩)
    (c_less : PySem.W.codeIn K cd_less "less" = true) (k_less : PySem.W.keepIn K (.ref f_less) = true)
    {od_is_coordinate an_is_coordinate : Option Addr} {sl_is_coordinate : Array (Option Value)} {oc_is_coordinate kV_is_coordinate dc_is_coordinate pm_is_coordinate cd_is_coordinate ct_is_coordinate : Value} {f_is_coordinate : Addr}
    (a_is_coordinate : PySem.W.nsIn K mainGlobals "is_coordinate" = some (some (.ref f_is_coordinate)))
    (l_is_coordinate : K.lookup f_is_coordinate = some ⟨oc_is_coordinate, od_is_coordinate, .func (PySem.W.fnOf "is_coordinate" "is_coordinate" (defArgs s_is_coordinate) (defBody s_is_coordinate) (defScope s_is_coordinate) .none kV_is_coordinate dc_is_coordinate pm_is_coordinate an_is_coordinate cd_is_coordinate ct_is_coordinate), sl_is_coordinate⟩)
    (c_is_coordinate : PySem.W.codeIn K cd_is_coordinate "is_coordinate" = true) (k_is_coordinate : PySem.W.keepIn K (.ref f_is_coordinate) = true)
    {od_is_point an_is_point : Option Addr} {sl_is_point : Array (Option Value)} {oc_is_point kV_is_point dc_is_point pm_is_point cd_is_point ct_is_point : Value} {f_is_point : Addr}
    (a_is_point : PySem.W.nsIn K mainGlobals "is_point" = some (some (.ref f_is_point)))
    (l_is_point : K.lookup f_is_point = some ⟨oc_is_point, od_is_point, .func (PySem.W.fnOf "is_point" "is_point" (defArgs s_is_point) (defBody s_is_point) (defScope s_is_point) .none kV_is_point dc_is_point pm_is_point an_is_point cd_is_point ct_is_point), sl_is_point⟩)
    (c_is_point : PySem.W.codeIn K cd_is_point "is_point" = true) (k_is_point : PySem.W.keepIn K (.ref f_is_point) = true)
    {od_is_segment an_is_segment : Option Addr} {sl_is_segment : Array (Option Value)} {oc_is_segment kV_is_segment dc_is_segment pm_is_segment cd_is_segment ct_is_segment : Value} {f_is_segment : Addr}
    (a_is_segment : PySem.W.nsIn K mainGlobals "is_segment" = some (some (.ref f_is_segment)))
    (l_is_segment : K.lookup f_is_segment = some ⟨oc_is_segment, od_is_segment, .func (PySem.W.fnOf "is_segment" "is_segment" (defArgs s_is_segment) (defBody s_is_segment) (defScope s_is_segment) .none kV_is_segment dc_is_segment pm_is_segment an_is_segment cd_is_segment ct_is_segment), sl_is_segment⟩)
    (c_is_segment : PySem.W.codeIn K cd_is_segment "is_segment" = true) (k_is_segment : PySem.W.keepIn K (.ref f_is_segment) = true)
    {od_are_points an_are_points : Option Addr} {sl_are_points : Array (Option Value)} {oc_are_points kV_are_points dc_are_points pm_are_points cd_are_points ct_are_points : Value} {f_are_points : Addr}
    (a_are_points : PySem.W.nsIn K mainGlobals "are_points" = some (some (.ref f_are_points)))
    (l_are_points : K.lookup f_are_points = some ⟨oc_are_points, od_are_points, .func (PySem.W.fnOf "are_points" "are_points" (defArgs s_are_points) (defBody s_are_points) (defScope s_are_points) .none kV_are_points dc_are_points pm_are_points an_are_points cd_are_points ct_are_points), sl_are_points⟩)
    (c_are_points : PySem.W.codeIn K cd_are_points "are_points" = true) (k_are_points : PySem.W.keepIn K (.ref f_are_points) = true)
    {od_is_line an_is_line : Option Addr} {sl_is_line : Array (Option Value)} {oc_is_line kV_is_line dc_is_line pm_is_line cd_is_line ct_is_line : Value} {f_is_line : Addr}
    (a_is_line : PySem.W.nsIn K mainGlobals "is_line" = some (some (.ref f_is_line)))
    (l_is_line : K.lookup f_is_line = some ⟨oc_is_line, od_is_line, .func (PySem.W.fnOf "is_line" "is_line" (defArgs s_is_line) (defBody s_is_line) (defScope s_is_line) .none kV_is_line dc_is_line pm_is_line an_is_line cd_is_line ct_is_line), sl_is_line⟩)
    (c_is_line : PySem.W.codeIn K cd_is_line "is_line" = true) (k_is_line : PySem.W.keepIn K (.ref f_is_line) = true)
    {od_joining an_joining : Option Addr} {sl_joining : Array (Option Value)} {oc_joining kV_joining dc_joining pm_joining cd_joining ct_joining : Value} {f_joining : Addr}
    (a_joining : PySem.W.nsIn K mainGlobals "joining" = some (some (.ref f_joining)))
    (l_joining : K.lookup f_joining = some ⟨oc_joining, od_joining, .func (PySem.W.fnOf "joining" "joining" (defArgs s_joining) (defBody s_joining) (defScope s_joining) .none kV_joining dc_joining pm_joining an_joining cd_joining ct_joining), sl_joining⟩)
    (c_joining : PySem.W.codeIn K cd_joining "joining" = true) (k_joining : PySem.W.keepIn K (.ref f_joining) = true)
    {od_edges_along an_edges_along : Option Addr} {sl_edges_along : Array (Option Value)} {oc_edges_along kV_edges_along dc_edges_along pm_edges_along cd_edges_along ct_edges_along : Value} {f_edges_along : Addr}
    (a_edges_along : PySem.W.nsIn K mainGlobals "edges_along" = some (some (.ref f_edges_along)))
    (l_edges_along : K.lookup f_edges_along = some ⟨oc_edges_along, od_edges_along, .func (PySem.W.fnOf "edges_along" "edges_along" (defArgs s_edges_along) (defBody s_edges_along) (defScope s_edges_along) .none kV_edges_along dc_edges_along pm_edges_along an_edges_along cd_edges_along ct_edges_along), sl_edges_along⟩)
    (c_edges_along : PySem.W.codeIn K cd_edges_along "edges_along" = true) (k_edges_along : PySem.W.keepIn K (.ref f_edges_along) = true)
    {od_foot_on an_foot_on : Option Addr} {sl_foot_on : Array (Option Value)} {oc_foot_on kV_foot_on dc_foot_on pm_foot_on cd_foot_on ct_foot_on : Value} {f_foot_on : Addr}
    (a_foot_on : PySem.W.nsIn K mainGlobals "foot_on" = some (some (.ref f_foot_on)))
    (l_foot_on : K.lookup f_foot_on = some ⟨oc_foot_on, od_foot_on, .func (PySem.W.fnOf "foot_on" "foot_on" (defArgs s_foot_on) (defBody s_foot_on) (defScope s_foot_on) .none kV_foot_on dc_foot_on pm_foot_on an_foot_on cd_foot_on ct_foot_on), sl_foot_on⟩)
    (c_foot_on : PySem.W.codeIn K cd_foot_on "foot_on" = true) (k_foot_on : PySem.W.keepIn K (.ref f_foot_on) = true)
    {od_gap_to an_gap_to : Option Addr} {sl_gap_to : Array (Option Value)} {oc_gap_to kV_gap_to dc_gap_to pm_gap_to cd_gap_to ct_gap_to : Value} {f_gap_to : Addr}
    (a_gap_to : PySem.W.nsIn K mainGlobals "gap_to" = some (some (.ref f_gap_to)))
    (l_gap_to : K.lookup f_gap_to = some ⟨oc_gap_to, od_gap_to, .func (PySem.W.fnOf "gap_to" "gap_to" (defArgs s_gap_to) (defBody s_gap_to) (defScope s_gap_to) .none kV_gap_to dc_gap_to pm_gap_to an_gap_to cd_gap_to ct_gap_to), sl_gap_to⟩)
    (c_gap_to : PySem.W.codeIn K cd_gap_to "gap_to" = true) (k_gap_to : PySem.W.keepIn K (.ref f_gap_to) = true)
    {od_nearest_edge an_nearest_edge : Option Addr} {sl_nearest_edge : Array (Option Value)} {oc_nearest_edge kV_nearest_edge dc_nearest_edge pm_nearest_edge cd_nearest_edge ct_nearest_edge : Value} {f_nearest_edge : Addr}
    (a_nearest_edge : PySem.W.nsIn K mainGlobals "nearest_edge" = some (some (.ref f_nearest_edge)))
    (l_nearest_edge : K.lookup f_nearest_edge = some ⟨oc_nearest_edge, od_nearest_edge, .func (PySem.W.fnOf "nearest_edge" "nearest_edge" (defArgs s_nearest_edge) (defBody s_nearest_edge) (defScope s_nearest_edge) .none kV_nearest_edge dc_nearest_edge pm_nearest_edge an_nearest_edge cd_nearest_edge ct_nearest_edge), sl_nearest_edge⟩)
    (c_nearest_edge : PySem.W.codeIn K cd_nearest_edge "nearest_edge" = true) (k_nearest_edge : PySem.W.keepIn K (.ref f_nearest_edge) = true)
    {od__law_stream an__law_stream : Option Addr} {sl__law_stream : Array (Option Value)} {oc__law_stream kV__law_stream dc__law_stream pm__law_stream cd__law_stream ct__law_stream : Value} {f__law_stream : Addr}
    (a__law_stream : PySem.W.nsIn K mainGlobals "_law_stream" = some (some (.ref f__law_stream)))
    (l__law_stream : K.lookup f__law_stream = some ⟨oc__law_stream, od__law_stream, .func (PySem.W.fnOf "_law_stream" "_law_stream" (defArgs s__law_stream) (defBody s__law_stream) (defScope s__law_stream) .none kV__law_stream dc__law_stream pm__law_stream an__law_stream cd__law_stream ct__law_stream), sl__law_stream⟩)
    (c__law_stream : PySem.W.codeIn K cd__law_stream "_law_stream" = true) (k__law_stream : PySem.W.keepIn K (.ref f__law_stream) = true)
    {od__law_next an__law_next : Option Addr} {sl__law_next : Array (Option Value)} {oc__law_next kV__law_next dc__law_next pm__law_next cd__law_next ct__law_next : Value} {f__law_next : Addr}
    (a__law_next : PySem.W.nsIn K mainGlobals "_law_next" = some (some (.ref f__law_next)))
    (l__law_next : K.lookup f__law_next = some ⟨oc__law_next, od__law_next, .func (PySem.W.fnOf "_law_next" "_law_next" (defArgs s__law_next) (defBody s__law_next) (defScope s__law_next) .none kV__law_next dc__law_next pm__law_next an__law_next cd__law_next ct__law_next), sl__law_next⟩)
    (c__law_next : PySem.W.codeIn K cd__law_next "_law_next" = true) (k__law_next : PySem.W.keepIn K (.ref f__law_next) = true)
    {od__law_is_integer an__law_is_integer : Option Addr} {sl__law_is_integer : Array (Option Value)} {oc__law_is_integer kV__law_is_integer dc__law_is_integer pm__law_is_integer cd__law_is_integer ct__law_is_integer : Value} {f__law_is_integer : Addr}
    (a__law_is_integer : PySem.W.nsIn K mainGlobals "_law_is_integer" = some (some (.ref f__law_is_integer)))
    (l__law_is_integer : K.lookup f__law_is_integer = some ⟨oc__law_is_integer, od__law_is_integer, .func (PySem.W.fnOf "_law_is_integer" "_law_is_integer" (defArgs s__law_is_integer) (defBody s__law_is_integer) (defScope s__law_is_integer) .none kV__law_is_integer dc__law_is_integer pm__law_is_integer an__law_is_integer cd__law_is_integer ct__law_is_integer), sl__law_is_integer⟩)
    (c__law_is_integer : PySem.W.codeIn K cd__law_is_integer "_law_is_integer" = true) (k__law_is_integer : PySem.W.keepIn K (.ref f__law_is_integer) = true)
    {od__law_gcd an__law_gcd : Option Addr} {sl__law_gcd : Array (Option Value)} {oc__law_gcd kV__law_gcd dc__law_gcd pm__law_gcd cd__law_gcd ct__law_gcd : Value} {f__law_gcd : Addr}
    (a__law_gcd : PySem.W.nsIn K mainGlobals "_law_gcd" = some (some (.ref f__law_gcd)))
    (l__law_gcd : K.lookup f__law_gcd = some ⟨oc__law_gcd, od__law_gcd, .func (PySem.W.fnOf "_law_gcd" "_law_gcd" (defArgs s__law_gcd) (defBody s__law_gcd) (defScope s__law_gcd) .none kV__law_gcd dc__law_gcd pm__law_gcd an__law_gcd cd__law_gcd ct__law_gcd), sl__law_gcd⟩)
    (c__law_gcd : PySem.W.codeIn K cd__law_gcd "_law_gcd" = true) (k__law_gcd : PySem.W.keepIn K (.ref f__law_gcd) = true)
    {od__law_low an__law_low : Option Addr} {sl__law_low : Array (Option Value)} {oc__law_low kV__law_low dc__law_low pm__law_low cd__law_low ct__law_low : Value} {f__law_low : Addr}
    (a__law_low : PySem.W.nsIn K mainGlobals "_law_low" = some (some (.ref f__law_low)))
    (l__law_low : K.lookup f__law_low = some ⟨oc__law_low, od__law_low, .func (PySem.W.fnOf "_law_low" "_law_low" (defArgs s__law_low) (defBody s__law_low) (defScope s__law_low) .none kV__law_low dc__law_low pm__law_low an__law_low cd__law_low ct__law_low), sl__law_low⟩)
    (c__law_low : PySem.W.codeIn K cd__law_low "_law_low" = true) (k__law_low : PySem.W.keepIn K (.ref f__law_low) = true)
    {od__law_equal an__law_equal : Option Addr} {sl__law_equal : Array (Option Value)} {oc__law_equal kV__law_equal dc__law_equal pm__law_equal cd__law_equal ct__law_equal : Value} {f__law_equal : Addr}
    (a__law_equal : PySem.W.nsIn K mainGlobals "_law_equal" = some (some (.ref f__law_equal)))
    (l__law_equal : K.lookup f__law_equal = some ⟨oc__law_equal, od__law_equal, .func (PySem.W.fnOf "_law_equal" "_law_equal" (defArgs s__law_equal) (defBody s__law_equal) (defScope s__law_equal) .none kV__law_equal dc__law_equal pm__law_equal an__law_equal cd__law_equal ct__law_equal), sl__law_equal⟩)
    (c__law_equal : PySem.W.codeIn K cd__law_equal "_law_equal" = true) (k__law_equal : PySem.W.keepIn K (.ref f__law_equal) = true)
    {od__law_point an__law_point : Option Addr} {sl__law_point : Array (Option Value)} {oc__law_point kV__law_point dc__law_point pm__law_point cd__law_point ct__law_point : Value} {f__law_point : Addr}
    (a__law_point : PySem.W.nsIn K mainGlobals "_law_point" = some (some (.ref f__law_point)))
    (l__law_point : K.lookup f__law_point = some ⟨oc__law_point, od__law_point, .func (PySem.W.fnOf "_law_point" "_law_point" (defArgs s__law_point) (defBody s__law_point) (defScope s__law_point) .none kV__law_point dc__law_point pm__law_point an__law_point cd__law_point ct__law_point), sl__law_point⟩)
    (c__law_point : PySem.W.codeIn K cd__law_point "_law_point" = true) (k__law_point : PySem.W.keepIn K (.ref f__law_point) = true)
    {od__law_far an__law_far : Option Addr} {sl__law_far : Array (Option Value)} {oc__law_far kV__law_far dc__law_far pm__law_far cd__law_far ct__law_far : Value} {f__law_far : Addr}
    (a__law_far : PySem.W.nsIn K mainGlobals "_law_far" = some (some (.ref f__law_far)))
    (l__law_far : K.lookup f__law_far = some ⟨oc__law_far, od__law_far, .func (PySem.W.fnOf "_law_far" "_law_far" (defArgs s__law_far) (defBody s__law_far) (defScope s__law_far) .none kV__law_far dc__law_far pm__law_far an__law_far cd__law_far ct__law_far), sl__law_far⟩)
    (c__law_far : PySem.W.codeIn K cd__law_far "_law_far" = true) (k__law_far : PySem.W.keepIn K (.ref f__law_far) = true)
    {od__law_gap an__law_gap : Option Addr} {sl__law_gap : Array (Option Value)} {oc__law_gap kV__law_gap dc__law_gap pm__law_gap cd__law_gap ct__law_gap : Value} {f__law_gap : Addr}
    (a__law_gap : PySem.W.nsIn K mainGlobals "_law_gap" = some (some (.ref f__law_gap)))
    (l__law_gap : K.lookup f__law_gap = some ⟨oc__law_gap, od__law_gap, .func (PySem.W.fnOf "_law_gap" "_law_gap" (defArgs s__law_gap) (defBody s__law_gap) (defScope s__law_gap) .none kV__law_gap dc__law_gap pm__law_gap an__law_gap cd__law_gap ct__law_gap), sl__law_gap⟩)
    (c__law_gap : PySem.W.codeIn K cd__law_gap "_law_gap" = true) (k__law_gap : PySem.W.keepIn K (.ref f__law_gap) = true)
    {od_law an_law : Option Addr} {sl_law : Array (Option Value)} {oc_law kV_law dc_law pm_law cd_law ct_law : Value} {f_law : Addr}
    (a_law : PySem.W.nsIn K mainGlobals "law" = some (some (.ref f_law)))
    (l_law : K.lookup f_law = some ⟨oc_law, od_law, .func (PySem.W.fnOf "law" "law" (defArgs s_law) (defBody s_law) (defScope s_law) .none kV_law dc_law pm_law an_law cd_law ct_law), sl_law⟩)
    (c_law : PySem.W.codeIn K cd_law "law" = true) (k_law : PySem.W.keepIn K (.ref f_law) = true)
    (z_abs : PySem.W.nsIn K mainGlobals "abs" = some none)
    (z_all : PySem.W.nsIn K mainGlobals "all" = some none)
    (z_bool : PySem.W.nsIn K mainGlobals "bool" = some none)
    (z_enumerate : PySem.W.nsIn K mainGlobals "enumerate" = some none)
    (z_int : PySem.W.nsIn K mainGlobals "int" = some none)
    (z_isinstance : PySem.W.nsIn K mainGlobals "isinstance" = some none)
    (z_len : PySem.W.nsIn K mainGlobals "len" = some none)
    (z_list : PySem.W.nsIn K mainGlobals "list" = some none)
    (z_max : PySem.W.nsIn K mainGlobals "max" = some none)
    (z_min : PySem.W.nsIn K mainGlobals "min" = some none)
    (z_range : PySem.W.nsIn K mainGlobals "range" = some none)
    (z_str : PySem.W.nsIn K mainGlobals "str" = some none)
    (z_tuple : PySem.W.nsIn K mainGlobals "tuple" = some none)
    (z_zip : PySem.W.nsIn K mainGlobals "zip" = some none)
    {t_HIGHEST : Tok} (v_HIGHEST : PySem.W.nsIn K mainGlobals "HIGHEST" = some (some (.int (1000) t_HIGHEST)))
    {t_LOWEST : Tok} (v_LOWEST : PySem.W.nsIn K mainGlobals "LOWEST" = some (some (.int (-1000) t_LOWEST)))
    {t_MOST_OF_LINE : Tok} (v_MOST_OF_LINE : PySem.W.nsIn K mainGlobals "MOST_OF_LINE" = some (some (.int (40) t_MOST_OF_LINE)))
    (z_gcd : PySem.W.nsIn K mainGlobals "gcd" = some (some (.builtin "math.gcd")))
    {cc_are_points P_are_points : Addr} {t1_are_points : Value} {t2_are_points : Option Addr} {t3_are_points : Array (Option Value)} {vs_are_points : Array Value}
    (e_are_points : cd_are_points = .ref cc_are_points) (o_are_points : K.lookup cc_are_points = some ⟨t1_are_points, t2_are_points, .fields vs_are_points, t3_are_points⟩) (v_are_points : (vs_are_points[11]? : Option Value) = some (.ref P_are_points)) (nl_are_points : K.lookup P_are_points = none)
    (rc_are_points : ((PyProof.Rows.recsOf q).any fun e => e.name == ("are_points" : Str)) = true)
    {cc_is_line P_is_line : Addr} {t1_is_line : Value} {t2_is_line : Option Addr} {t3_is_line : Array (Option Value)} {vs_is_line : Array Value}
    (e_is_line : cd_is_line = .ref cc_is_line) (o_is_line : K.lookup cc_is_line = some ⟨t1_is_line, t2_is_line, .fields vs_is_line, t3_is_line⟩) (v_is_line : (vs_is_line[11]? : Option Value) = some (.ref P_is_line)) (nl_is_line : K.lookup P_is_line = none)
    (rc_is_line : ((PyProof.Rows.recsOf q).any fun e => e.name == ("is_line" : Str)) = true)
    : LamX.LawAtS l w K CX0 13 63 "script" mg fa h := by
  have e := hfa.symm.trans (PySem.W.mg_of X G a_law)
  cases e
  let T : Txt K mg := {
    a_is_whole := f_is_whole, d_is_whole := _, F_is_whole := fun_mk (st := s_is_whole) l_is_whole c_is_whole k_is_whole, m_is_whole := PySem.W.mg_of X G a_is_whole,
    b_is_whole := (fun_mk (st := s_is_whole) l_is_whole c_is_whole k_is_whole).binds (ps := ["value"]) fun _ _ _ _ _ _ us hl => match us, hl with | [_], _ => rfl,
    a_is_pair := f_is_pair, d_is_pair := _, F_is_pair := fun_mk (st := s_is_pair) l_is_pair c_is_pair k_is_pair, m_is_pair := PySem.W.mg_of X G a_is_pair,
    b_is_pair := (fun_mk (st := s_is_pair) l_is_pair c_is_pair k_is_pair).binds (ps := ["value"]) fun _ _ _ _ _ _ us hl => match us, hl with | [_], _ => rfl,
    a_need := f_need, d_need := _, F_need := fun_mk (st := s_need) l_need c_need k_need, m_need := PySem.W.mg_of X G a_need,
    b_need := (fun_mk (st := s_need) l_need c_need k_need).binds (ps := ["holds", "name"]) fun _ _ _ _ _ _ us hl => match us, hl with | [_, _], _ => rfl,
    a_lowest := f_lowest, d_lowest := _, F_lowest := fun_mk (st := s_lowest) l_lowest c_lowest k_lowest, m_lowest := PySem.W.mg_of X G a_lowest,
    b_lowest := (fun_mk (st := s_lowest) l_lowest c_lowest k_lowest).binds (ps := ["n", "d"]) fun _ _ _ _ _ _ us hl => match us, hl with | [_, _], _ => rfl,
    a_is_fraction := f_is_fraction, d_is_fraction := _, F_is_fraction := fun_mk (st := s_is_fraction) l_is_fraction c_is_fraction k_is_fraction, m_is_fraction := PySem.W.mg_of X G a_is_fraction,
    b_is_fraction := (fun_mk (st := s_is_fraction) l_is_fraction c_is_fraction k_is_fraction).binds (ps := ["value"]) fun _ _ _ _ _ _ us hl => match us, hl with | [_], _ => rfl,
    a_need_both := f_need_both, d_need_both := _, F_need_both := fun_mk (st := s_need_both) l_need_both c_need_both k_need_both, m_need_both := PySem.W.mg_of X G a_need_both,
    b_need_both := (fun_mk (st := s_need_both) l_need_both c_need_both k_need_both).binds (ps := ["first", "second"]) fun _ _ _ _ _ _ us hl => match us, hl with | [_, _], _ => rfl,
    a_less := f_less, d_less := _, F_less := fun_mk (st := s_less) l_less c_less k_less, m_less := PySem.W.mg_of X G a_less,
    b_less := (fun_mk (st := s_less) l_less c_less k_less).binds (ps := ["first", "second"]) fun _ _ _ _ _ _ us hl => match us, hl with | [_, _], _ => rfl,
    a_is_coordinate := f_is_coordinate, d_is_coordinate := _, F_is_coordinate := fun_mk (st := s_is_coordinate) l_is_coordinate c_is_coordinate k_is_coordinate, m_is_coordinate := PySem.W.mg_of X G a_is_coordinate,
    b_is_coordinate := (fun_mk (st := s_is_coordinate) l_is_coordinate c_is_coordinate k_is_coordinate).binds (ps := ["value"]) fun _ _ _ _ _ _ us hl => match us, hl with | [_], _ => rfl,
    a_is_point := f_is_point, d_is_point := _, F_is_point := fun_mk (st := s_is_point) l_is_point c_is_point k_is_point, m_is_point := PySem.W.mg_of X G a_is_point,
    b_is_point := (fun_mk (st := s_is_point) l_is_point c_is_point k_is_point).binds (ps := ["value"]) fun _ _ _ _ _ _ us hl => match us, hl with | [_], _ => rfl,
    a_is_segment := f_is_segment, d_is_segment := _, F_is_segment := fun_mk (st := s_is_segment) l_is_segment c_is_segment k_is_segment, m_is_segment := PySem.W.mg_of X G a_is_segment,
    b_is_segment := (fun_mk (st := s_is_segment) l_is_segment c_is_segment k_is_segment).binds (ps := ["value"]) fun _ _ _ _ _ _ us hl => match us, hl with | [_], _ => rfl,
    a_are_points := f_are_points, d_are_points := _, cc_are_points := cc_are_points, P_are_points := P_are_points, F_are_points := funT_mk (st := s_are_points) l_are_points c_are_points k_are_points e_are_points, m_are_points := PySem.W.mg_of X G a_are_points,
    b_are_points := (fun_mk (st := s_are_points) l_are_points c_are_points k_are_points).binds (ps := ["value", "least", "most"]) fun _ _ _ _ _ _ us hl => match us, hl with | [_, _, _], _ => rfl,
    a_is_line := f_is_line, d_is_line := _, cc_is_line := cc_is_line, P_is_line := P_is_line, F_is_line := funT_mk (st := s_is_line) l_is_line c_is_line k_is_line e_is_line, m_is_line := PySem.W.mg_of X G a_is_line,
    b_is_line := (fun_mk (st := s_is_line) l_is_line c_is_line k_is_line).binds (ps := ["value"]) fun _ _ _ _ _ _ us hl => match us, hl with | [_], _ => rfl,
    a_joining := f_joining, d_joining := _, F_joining := fun_mk (st := s_joining) l_joining c_joining k_joining, m_joining := PySem.W.mg_of X G a_joining,
    b_joining := (fun_mk (st := s_joining) l_joining c_joining k_joining).binds (ps := ["p", "q"]) fun _ _ _ _ _ _ us hl => match us, hl with | [_, _], _ => rfl,
    a_edges_along := f_edges_along, d_edges_along := _, F_edges_along := fun_mk (st := s_edges_along) l_edges_along c_edges_along k_edges_along, m_edges_along := PySem.W.mg_of X G a_edges_along,
    b_edges_along := (fun_mk (st := s_edges_along) l_edges_along c_edges_along k_edges_along).binds (ps := ["points"]) fun _ _ _ _ _ _ us hl => match us, hl with | [_], _ => rfl,
    a_foot_on := f_foot_on, d_foot_on := _, F_foot_on := fun_mk (st := s_foot_on) l_foot_on c_foot_on k_foot_on, m_foot_on := PySem.W.mg_of X G a_foot_on,
    b_foot_on := (fun_mk (st := s_foot_on) l_foot_on c_foot_on k_foot_on).binds (ps := ["p", "segment"]) fun _ _ _ _ _ _ us hl => match us, hl with | [_, _], _ => rfl,
    a_gap_to := f_gap_to, d_gap_to := _, F_gap_to := fun_mk (st := s_gap_to) l_gap_to c_gap_to k_gap_to, m_gap_to := PySem.W.mg_of X G a_gap_to,
    b_gap_to := (fun_mk (st := s_gap_to) l_gap_to c_gap_to k_gap_to).binds (ps := ["p", "segment"]) fun _ _ _ _ _ _ us hl => match us, hl with | [_, _], _ => rfl,
    a_nearest_edge := f_nearest_edge, d_nearest_edge := _, F_nearest_edge := fun_mk (st := s_nearest_edge) l_nearest_edge c_nearest_edge k_nearest_edge, m_nearest_edge := PySem.W.mg_of X G a_nearest_edge,
    b_nearest_edge := (fun_mk (st := s_nearest_edge) l_nearest_edge c_nearest_edge k_nearest_edge).binds (ps := ["p", "line"]) fun _ _ _ _ _ _ us hl => match us, hl with | [_, _], _ => rfl,
    a__law_stream := f__law_stream, d__law_stream := _, F__law_stream := fun_mk (st := s__law_stream) l__law_stream c__law_stream k__law_stream, m__law_stream := PySem.W.mg_of X G a__law_stream,
    b__law_stream := (fun_mk (st := s__law_stream) l__law_stream c__law_stream k__law_stream).binds (ps := ["script"]) fun _ _ _ _ _ _ us hl => match us, hl with | [_], _ => rfl,
    a__law_next := f__law_next, d__law_next := _, F__law_next := fun_mk (st := s__law_next) l__law_next c__law_next k__law_next, m__law_next := PySem.W.mg_of X G a__law_next,
    b__law_next := (fun_mk (st := s__law_next) l__law_next c__law_next k__law_next).binds (ps := ["stream", "many"]) fun _ _ _ _ _ _ us hl => match us, hl with | [_, _], _ => rfl,
    a__law_is_integer := f__law_is_integer, d__law_is_integer := _, F__law_is_integer := fun_mk (st := s__law_is_integer) l__law_is_integer c__law_is_integer k__law_is_integer, m__law_is_integer := PySem.W.mg_of X G a__law_is_integer,
    b__law_is_integer := (fun_mk (st := s__law_is_integer) l__law_is_integer c__law_is_integer k__law_is_integer).binds (ps := ["actual"]) fun _ _ _ _ _ _ us hl => match us, hl with | [_], _ => rfl,
    a__law_gcd := f__law_gcd, d__law_gcd := _, F__law_gcd := fun_mk (st := s__law_gcd) l__law_gcd c__law_gcd k__law_gcd, m__law_gcd := PySem.W.mg_of X G a__law_gcd,
    b__law_gcd := (fun_mk (st := s__law_gcd) l__law_gcd c__law_gcd k__law_gcd).binds (ps := ["a", "b"]) fun _ _ _ _ _ _ us hl => match us, hl with | [_, _], _ => rfl,
    a__law_low := f__law_low, d__law_low := _, F__law_low := fun_mk (st := s__law_low) l__law_low c__law_low k__law_low, m__law_low := PySem.W.mg_of X G a__law_low,
    b__law_low := (fun_mk (st := s__law_low) l__law_low c__law_low k__law_low).binds (ps := ["n", "d"]) fun _ _ _ _ _ _ us hl => match us, hl with | [_, _], _ => rfl,
    a__law_equal := f__law_equal, d__law_equal := _, F__law_equal := fun_mk (st := s__law_equal) l__law_equal c__law_equal k__law_equal, m__law_equal := PySem.W.mg_of X G a__law_equal,
    b__law_equal := (fun_mk (st := s__law_equal) l__law_equal c__law_equal k__law_equal).binds (ps := ["actual", "due"]) fun _ _ _ _ _ _ us hl => match us, hl with | [_, _], _ => rfl,
    a__law_point := f__law_point, d__law_point := _, F__law_point := fun_mk (st := s__law_point) l__law_point c__law_point k__law_point, m__law_point := PySem.W.mg_of X G a__law_point,
    b__law_point := (fun_mk (st := s__law_point) l__law_point c__law_point k__law_point).binds (ps := ["stream", "far"]) fun _ _ _ _ _ _ us hl => match us, hl with | [_, _], _ => rfl,
    a__law_far := f__law_far, d__law_far := _, F__law_far := fun_mk (st := s__law_far) l__law_far c__law_far k__law_far, m__law_far := PySem.W.mg_of X G a__law_far,
    b__law_far := (fun_mk (st := s__law_far) l__law_far c__law_far k__law_far).binds (ps := ["stream"]) fun _ _ _ _ _ _ us hl => match us, hl with | [_], _ => rfl,
    a__law_gap := f__law_gap, d__law_gap := _, F__law_gap := fun_mk (st := s__law_gap) l__law_gap c__law_gap k__law_gap, m__law_gap := PySem.W.mg_of X G a__law_gap,
    b__law_gap := (fun_mk (st := s__law_gap) l__law_gap c__law_gap k__law_gap).binds (ps := ["p", "a", "b"]) fun _ _ _ _ _ _ us hl => match us, hl with | [_, _, _], _ => rfl,
    a_law := fa, d_law := _, F_law := fun_mk (st := s_law) l_law c_law k_law, m_law := PySem.W.mg_of X G a_law,
    b_law := (fun_mk (st := s_law) l_law c_law k_law).binds (ps := ["script"]) fun _ _ _ _ _ _ us hl => match us, hl with | [_], _ => rfl,
    n_abs := PySem.W.mg_none_of X G z_abs,
    n_all := PySem.W.mg_none_of X G z_all,
    n_bool := PySem.W.mg_none_of X G z_bool,
    n_enumerate := PySem.W.mg_none_of X G z_enumerate,
    n_int := PySem.W.mg_none_of X G z_int,
    n_isinstance := PySem.W.mg_none_of X G z_isinstance,
    n_len := PySem.W.mg_none_of X G z_len,
    n_list := PySem.W.mg_none_of X G z_list,
    n_max := PySem.W.mg_none_of X G z_max,
    n_min := PySem.W.mg_none_of X G z_min,
    n_range := PySem.W.mg_none_of X G z_range,
    n_str := PySem.W.mg_none_of X G z_str,
    n_tuple := PySem.W.mg_none_of X G z_tuple,
    n_zip := PySem.W.mg_none_of X G z_zip,
    c_HIGHEST := ⟨_, PySem.W.mg_of X G v_HIGHEST⟩,
    c_LOWEST := ⟨_, PySem.W.mg_of X G v_LOWEST⟩,
    c_MOST_OF_LINE := ⟨_, PySem.W.mg_of X G v_MOST_OF_LINE⟩,
    n_gcd := PySem.W.mg_of X G z_gcd }
  have tb_are_points := TQ "are_points" cc_are_points P_are_points rc_are_points (tabIn_of a_are_points l_are_points rfl e_are_points o_are_points v_are_points)
  have tb_is_line := TQ "is_line" cc_is_line P_is_line rc_is_line (tabIn_of a_is_line l_is_line rfl e_is_line o_is_line v_is_line)
  refine ⟨_, [(cc_are_points, P_are_points), (cc_is_line, P_is_line)], spLawT K T.ts, List.forall_mem_cons.mpr ⟨tb_are_points.2, List.forall_mem_cons.mpr ⟨tb_is_line.2, fun _ z => nomatch z⟩⟩, List.forall_mem_cons.mpr ⟨nl_are_points, List.forall_mem_cons.mpr ⟨nl_is_line, fun _ z => nomatch z⟩⟩, List.forall_mem_cons.mpr ⟨tb_are_points.1, List.forall_mem_cons.mpr ⟨tb_is_line.1, fun _ z => nomatch z⟩⟩, fun s v => .of_eq rfl, fun H a ns h1 h2 h3 h4 => ⟨a, ns, rfl, h4, h1, tbs_nil rfl h3, fun _ => rfl⟩, fun base _ _ hb => ok_law T ⟨(let z := hb (cc_are_points, P_are_points) (by simp); ⟨z.code, z.bm, z.gP⟩), (let z := hb (cc_is_line, P_is_line) (by simp); ⟨z.code, z.bm, z.gP⟩)⟩⟩
end My
open PySem PySem.W PyProof.Rows
set_option maxRecDepth 100000 in
set_option maxHeartbeats 0 in
theorem PySem.Challenge.cw_trueatlas_k06_lines_and_segments_holds : PySem.Challenge.rw_trueatlas_k06_lines_and_segments.Holds := by
  w_on; o_law; k_head; (case hw => w_witness2)
  k_fill
  refine My.walkT (l := PySem.Challenge.rw_trueatlas_k06_lines_and_segments) (k := 13) ⟨rfl, by decide, by decide⟩ rfl rfl (fun w h Y => PySem.W.kIn_of Y) ?F
  case F =>
    intro w mg fa h TQ KX G hmg
    refine' My.all_mk (w := w) KX G hmg TQ ?a_is_whole ?l_is_whole ?c_is_whole ?k_is_whole ?a_is_pair ?l_is_pair ?c_is_pair ?k_is_pair ?a_need ?l_need ?c_need ?k_need ?a_lowest ?l_lowest ?c_lowest ?k_lowest ?a_is_fraction ?l_is_fraction ?c_is_fraction ?k_is_fraction ?a_need_both ?l_need_both ?c_need_both ?k_need_both ?a_less ?l_less ?c_less ?k_less ?a_is_coordinate ?l_is_coordinate ?c_is_coordinate ?k_is_coordinate ?a_is_point ?l_is_point ?c_is_point ?k_is_point ?a_is_segment ?l_is_segment ?c_is_segment ?k_is_segment ?a_are_points ?l_are_points ?c_are_points ?k_are_points ?a_is_line ?l_is_line ?c_is_line ?k_is_line ?a_joining ?l_joining ?c_joining ?k_joining ?a_edges_along ?l_edges_along ?c_edges_along ?k_edges_along ?a_foot_on ?l_foot_on ?c_foot_on ?k_foot_on ?a_gap_to ?l_gap_to ?c_gap_to ?k_gap_to ?a_nearest_edge ?l_nearest_edge ?c_nearest_edge ?k_nearest_edge ?a__law_stream ?l__law_stream ?c__law_stream ?k__law_stream ?a__law_next ?l__law_next ?c__law_next ?k__law_next ?a__law_is_integer ?l__law_is_integer ?c__law_is_integer ?k__law_is_integer ?a__law_gcd ?l__law_gcd ?c__law_gcd ?k__law_gcd ?a__law_low ?l__law_low ?c__law_low ?k__law_low ?a__law_equal ?l__law_equal ?c__law_equal ?k__law_equal ?a__law_point ?l__law_point ?c__law_point ?k__law_point ?a__law_far ?l__law_far ?c__law_far ?k__law_far ?a__law_gap ?l__law_gap ?c__law_gap ?k__law_gap ?a_law ?l_law ?c_law ?k_law ?z_abs ?z_all ?z_bool ?z_enumerate ?z_int ?z_isinstance ?z_len ?z_list ?z_max ?z_min ?z_range ?z_str ?z_tuple ?z_zip ?v_HIGHEST ?v_LOWEST ?v_MOST_OF_LINE ?z_gcd ?e_are_points ?o_are_points ?v_are_points ?nl_are_points ?rc_are_points ?e_is_line ?o_is_line ?v_is_line ?nl_is_line ?rc_is_line
    (case a_is_whole => k_is)
    (case l_is_whole => k_is)
    (case c_is_whole => k_is)
    (case k_is_whole => k_is)
    (case a_is_pair => k_is)
    (case l_is_pair => k_is)
    (case c_is_pair => k_is)
    (case k_is_pair => k_is)
    (case a_need => k_is)
    (case l_need => k_is)
    (case c_need => k_is)
    (case k_need => k_is)
    (case a_lowest => k_is)
    (case l_lowest => k_is)
    (case c_lowest => k_is)
    (case k_lowest => k_is)
    (case a_is_fraction => k_is)
    (case l_is_fraction => k_is)
    (case c_is_fraction => k_is)
    (case k_is_fraction => k_is)
    (case a_need_both => k_is)
    (case l_need_both => k_is)
    (case c_need_both => k_is)
    (case k_need_both => k_is)
    (case a_less => k_is)
    (case l_less => k_is)
    (case c_less => k_is)
    (case k_less => k_is)
    (case a_is_coordinate => k_is)
    (case l_is_coordinate => k_is)
    (case c_is_coordinate => k_is)
    (case k_is_coordinate => k_is)
    (case a_is_point => k_is)
    (case l_is_point => k_is)
    (case c_is_point => k_is)
    (case k_is_point => k_is)
    (case a_is_segment => k_is)
    (case l_is_segment => k_is)
    (case c_is_segment => k_is)
    (case k_is_segment => k_is)
    (case a_are_points => k_is)
    (case l_are_points => k_is)
    (case c_are_points => k_is)
    (case k_are_points => k_is)
    (case a_is_line => k_is)
    (case l_is_line => k_is)
    (case c_is_line => k_is)
    (case k_is_line => k_is)
    (case a_joining => k_is)
    (case l_joining => k_is)
    (case c_joining => k_is)
    (case k_joining => k_is)
    (case a_edges_along => k_is)
    (case l_edges_along => k_is)
    (case c_edges_along => k_is)
    (case k_edges_along => k_is)
    (case a_foot_on => k_is)
    (case l_foot_on => k_is)
    (case c_foot_on => k_is)
    (case k_foot_on => k_is)
    (case a_gap_to => k_is)
    (case l_gap_to => k_is)
    (case c_gap_to => k_is)
    (case k_gap_to => k_is)
    (case a_nearest_edge => k_is)
    (case l_nearest_edge => k_is)
    (case c_nearest_edge => k_is)
    (case k_nearest_edge => k_is)
    (case a__law_stream => k_is)
    (case l__law_stream => k_is)
    (case c__law_stream => k_is)
    (case k__law_stream => k_is)
    (case a__law_next => k_is)
    (case l__law_next => k_is)
    (case c__law_next => k_is)
    (case k__law_next => k_is)
    (case a__law_is_integer => k_is)
    (case l__law_is_integer => k_is)
    (case c__law_is_integer => k_is)
    (case k__law_is_integer => k_is)
    (case a__law_gcd => k_is)
    (case l__law_gcd => k_is)
    (case c__law_gcd => k_is)
    (case k__law_gcd => k_is)
    (case a__law_low => k_is)
    (case l__law_low => k_is)
    (case c__law_low => k_is)
    (case k__law_low => k_is)
    (case a__law_equal => k_is)
    (case l__law_equal => k_is)
    (case c__law_equal => k_is)
    (case k__law_equal => k_is)
    (case a__law_point => k_is)
    (case l__law_point => k_is)
    (case c__law_point => k_is)
    (case k__law_point => k_is)
    (case a__law_far => k_is)
    (case l__law_far => k_is)
    (case c__law_far => k_is)
    (case k__law_far => k_is)
    (case a__law_gap => k_is)
    (case l__law_gap => k_is)
    (case c__law_gap => k_is)
    (case k__law_gap => k_is)
    (case a_law => k_is)
    (case l_law => k_is)
    (case c_law => k_is)
    (case k_law => k_is)
    (case z_abs => k_is)
    (case z_all => k_is)
    (case z_bool => k_is)
    (case z_enumerate => k_is)
    (case z_int => k_is)
    (case z_isinstance => k_is)
    (case z_len => k_is)
    (case z_list => k_is)
    (case z_max => k_is)
    (case z_min => k_is)
    (case z_range => k_is)
    (case z_str => k_is)
    (case z_tuple => k_is)
    (case z_zip => k_is)
    (case v_HIGHEST => k_is)
    (case v_LOWEST => k_is)
    (case v_MOST_OF_LINE => k_is)
    (case z_gcd => k_is)
    (case e_are_points => rfl)
    (case o_are_points => k_is)
    (case v_are_points => rfl)
    (case nl_are_points => first | rfl | kernel_rfl)
    (case rc_are_points => first | rfl | decide +kernel)
    (case e_is_line => rfl)
    (case o_is_line => k_is)
    (case v_is_line => rfl)
    (case nl_is_line => first | rfl | kernel_rfl)
    (case rc_is_line => first | rfl | decide +kernel)


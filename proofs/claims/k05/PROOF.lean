import PyProof.Rows.All
import Wide.All
import OpenK.AllK
import Wide.FinOn
import HandS.ForMost
import HandS.ForExc
import HandS.IsInst
import HandS.Wide
import HandS.TupLe
import HandS.TupAny
import HandS.Gcd
import HandS.Codes
import KE.SortData
import KE.DataMinMax
import KE.DataCmp
import HandS.SortInts
import PySem.Challenge.RW_trueatlas_k05_meetings
set_option Elab.async false
set_option linter.all false
set_option maxRecDepth 100000
set_option maxHeartbeats 4000000
namespace My
open PySem L2

/-! ## small rules -/
theorem pe_gI {X : Cx} {x : Str} {i : Int} {pos : Pos} (hm : ∃ t, X.mg x = some (.int i t)) (hg : Gl X x := by rfl) (hd : (x == ("__debug__" : Str)) = false := by decide) (hcd : (x == ("__classdict__" : Str)) = false := by decide) : PE X (.Name x pos) (tC (.int i)) := by
  obtain ⟨t, e⟩ := hm
  exact pe_glob hg e ⟨t, rfl⟩ hd
theorem ifD {c A B : Prop} [Decidable c] (h1 : c → A) (h2 : ¬ c → B) : if decide c = true then A else B := by
  by_cases h : c
  · rw [if_pos (decide_eq_true h)]; exact h1 h
  · rw [if_neg (by rw [decide_eq_false h]; exact Bool.false_ne_true)]; exact h2 h
theorem ifND {c A B : Prop} [Decidable c] (h1 : ¬ c → A) (h2 : c → B) : if (!decide c) = true then A else B := by
  by_cases h : c
  · rw [if_neg (by rw [decide_eq_true h]; exact Bool.false_ne_true)]; exact h2 h
  · rw [if_pos (by rw [decide_eq_false h]; rfl)]; exact h1 h
theorem ifB {b : Bool} {A B : Prop} (h1 : b = true → A) (h2 : b = false → B) : if b = true then A else B := by
  cases b
  · exact iteF (h2 rfl)
  · exact iteT (h1 rfl)
theorem ifTr {b : Bool} {A B : Prop} (e : b = true) (h : A) : if b = true then A else B := by rw [if_pos e]; exact h
theorem ifFa {b : Bool} {A B : Prop} (e : b = false) (h : B) : if b = true then A else B := by rw [e]; exact iteF h

/-! ## heaps: all that stood stands, but for what is at s -/
def But (s : Addr) (H H' : Hp) : Prop := ∀ b o, b ≠ s → H b = some o → H' b = some o
theorem But.refl {s : Addr} {H : Hp} : But s H H := fun _ _ _ e => e
theorem But.trans {s : Addr} {H H1 H2 : Hp} (a : But s H H1) (b : But s H1 H2) : But s H H2 := fun c o n e => b c o n (a c o n e)
theorem But.new {s p : Addr} {H : Hp} {o : HO} (n : H p = none) : But s H (upd H p o) := fun b u _ e => by
  rw [upd_ne (ne_of_none e n)]; exact e
theorem But.then_new {s p : Addr} {H H1 : Hp} {o : HO} (a : But s H H1) (n : H1 p = none) : But s H (upd H1 p o) := a.trans (But.new n)
theorem But.at {s : Addr} {H : Hp} {o : HO} : But s H (upd H s o) := fun b u n e => by rw [upd_ne n]; exact e
theorem But.then_at {s : Addr} {H H1 : Hp} {o : HO} (a : But s H H1) : But s H (upd H1 s o) := a.trans But.at
theorem But.of_same {s : Addr} {H H' : Hp} (a : Same H H') : But s H H' := fun b o _ e => a b o e
theorem But.then_same {s : Addr} {H H1 H2 : Hp} (a : But s H H1) (b : Same H1 H2) : But s H H2 := a.trans (But.of_same b)
theorem same_new {p : Addr} {H : Hp} {o : HO} (n : H p = none) : Same H (upd H p o) := fun b u e => by
  rw [upd_ne (ne_of_none e n)]; exact e
theorem same_then {p : Addr} {H H1 : Hp} {o : HO} (a : Same H H1) (n : H1 p = none) : Same H (upd H1 p o) := a.trans (same_new n)
/-- what stands at s is the stream's list: no tuple -/
def Lst (H : Hp) (s : Addr) : Prop := ∃ xs, H s = some (.lst xs)

/-! ## tuples -/
section
variable {K : PySem.W.Frag} {H H' : Hp} {a p s : Addr} {xs : List V} {o : HO}
theorem tHere : SqT K (upd H p (.tup xs)) p xs := SqT.of upd_same
theorem tSame (e : Same H H') (h : SqT K H a xs) : SqT K H' a xs := by
  rcases h with (h | ⟨o, h⟩) | h
  · exact .inl (.inl (e _ _ h))
  · exact .inl (.inr ⟨o, e _ _ h⟩)
  · exact .inr h
theorem tOver (n : H p = none) (h : SqT K H a xs) : SqT K (upd H p o) a xs := tSame (same_new n) h
theorem tAt (n : ∃ ys, H s = some (.lst ys)) (h : SqT K H a xs) : SqT K (upd H s o) a xs := by
  obtain ⟨ys, n⟩ := n
  rcases h with (h | ⟨o, h⟩) | h
  · exact .inl (.inl (by rw [upd_ne (ne_of h n (by intro z; cases z))]; exact h))
  · exact .inl (.inr ⟨o, by rw [upd_ne (ne_of h n (by intro z; cases z))]; exact h⟩)
  · exact .inr h
theorem tBut (e : But s H H') (n : Lst H s) (h : SqT K H a xs) : SqT K H' a xs := by
  obtain ⟨ys, n⟩ := n
  rcases h with (h | ⟨o, h⟩) | h
  · exact .inl (.inl (e _ _ (ne_of h n (by intro z; cases z)) h))
  · exact .inl (.inr ⟨o, e _ _ (ne_of h n (by intro z; cases z)) h⟩)
  · exact .inr h
theorem lHere : SqL K (upd H p (.lst xs)) p xs := SqL.of upd_same
theorem lOver (n : H p = none) (h : SqL K H a xs) : SqL K (upd H p o) a xs := Same.seq (same_new n) h
theorem rOver (n : H p = none) {u : HO} (h : H a = some u) : upd H p o a = some u := by rw [upd_ne (ne_of_none h n)]; exact h
end
end My

namespace My
open PySem L2
/-! ## kinds of values -/
inductive Ty (K : PySem.W.Frag) (H : Hp) : V → String → Prop where
  | non : Ty K H .non "NoneType"
  | bl (b : Bool) : Ty K H (.bl b) "bool"
  | int (i : Int) : Ty K H (.int i) "int"
  | str (x : Str) : Ty K H (.str x) "str"
  | tup {a : Addr} {xs : List V} (h : SqT K H a xs) : Ty K H (.ref a) "tuple"
  | lst {a : Addr} {xs : List V} (h : SqL K H a xs) : Ty K H (.ref a) "list"
theorem Ty.x {K : PySem.W.Frag} {H : Hp} {v : V} {n : String} (h : Ty K H v n) : TyX K H v (.type n) := by
  cases h with
  | non => exact .base .non
  | bl b => exact .base (.bl b)
  | int i => exact .base (.int i)
  | str x => exact .base (.str x)
  | tup h =>
    rcases h with (h | ⟨o, h⟩) | ⟨o, its, n, e, c, _⟩
    · exact .base (.tup h)
    · exact .fTuple h
    · exact .kTuple e c
  | lst h =>
    rcases h with (h | ⟨o, h⟩) | ⟨o, its, n, e, c, _⟩
    · exact .base (.lst h)
    · exact .base (.frz h)
    · exact .kList e c
/-- isinstance's answers among these -/
def isaB (a b : String) : Bool := (kitB a b).getD false
theorem isa {K : PySem.W.Frag} {a b : String} (h : (kitB a b).isSome = true) : PySem.W.kitOne K (.type a) (.type b) = some (isaB a b) := by
  refine kit_ty ?_
  unfold isaB
  cases e : kitB a b with
  | none => rw [e] at h; cases h
  | some r => rfl
def six : List String := ["NoneType", "bool", "int", "str", "tuple", "list"]
theorem isa_all : (six.all fun a => six.tail.all fun b => (kitB a b).isSome) = true := by decide +kernel
theorem isa_tab : (six.all fun a => six.tail.all fun b => isaB a b == (a == b || (a == "bool" && b == "int"))) = true := by decide +kernel
theorem Ty.six {K : PySem.W.Frag} {H : Hp} {v : V} {n : String} (h : Ty K H v n) : n ∈ six := by
  cases h <;> simp [My.six]
theorem isaN {K : PySem.W.Frag} {n b : String} (h : n ∈ My.six) (hb : b ∈ My.six.tail) : PySem.W.kitOne K (.type n) (.type b) = some (n == b || (n == "bool" && b == "int")) := by
  have h1 := List.all_eq_true.mp (List.all_eq_true.mp isa_all n h) b hb
  have h2 := List.all_eq_true.mp (List.all_eq_true.mp isa_tab n h) b hb
  rw [isa h1, eq_of_beq h2]
/-- whether a value is an int (True and False are none) -/
def isI : V → Bool
  | .int _ => true
  | _ => false
theorem small {n : Nat} (h : Nat.ble n 100 = true) : n ≤ sizeLine := Nat.le_trans (Nat.le_of_ble_eq_true h) (by decide)
/-! ## indexes -/
theorem at0 {α : Type} {a : α} {r : List α} : atI (a :: r) 0 = some a := atI_nat (j := 0) rfl
theorem at1 {α : Type} {a b : α} {r : List α} : atI (a :: b :: r) 1 = some b := atI_nat (j := 1) rfl
theorem at2 {α : Type} {a b c : α} {r : List α} : atI (a :: b :: c :: r) 2 = some c := atI_nat (j := 2) rfl
theorem at3 {α : Type} {a b c d : α} {r : List α} : atI (a :: b :: c :: d :: r) 3 = some d := atI_nat (j := 3) rfl
end My

namespace My
open PySem L2
/-! ## points -/
def coordB : V → Bool
  | .int i => decide (-1000 ≤ i) && decide (i ≤ 1000)
  | _ => false
def pointB : List V → Bool
  | [u, v] => coordB u && coordB v
  | _ => false
/-- small enough to be multiplied -/
def Sm (x : Int) : Prop := -1099511627776 ≤ x ∧ x ≤ 1099511627776
def turnI (ax ay bx dy cx cy : Int) : Int := (bx - ax) * (cy - ay) - (dy - ay) * (cx - ax)
/-- whether a point's numbers are those of the map -/
def On (x y : Int) : Prop := -1000 ≤ x ∧ x ≤ 1000 ∧ -1000 ≤ y ∧ y ≤ 1000
theorem On.b {x y : Int} (h : On x y) : pointB [.int x, .int y] = true := by
  obtain ⟨h1, h2, h3, h4⟩ := h
  simp [pointB, coordB, h1, h2, h3, h4]
theorem On.sx {x y : Int} (h : On x y) : Sm x := by unfold On at h; unfold Sm; omega
theorem On.sy {x y : Int} (h : On x y) : Sm y := by unfold On at h; unfold Sm; omega
/-! ## the stream of a law -/
/-- at s: a stream: a list of ints, the cell, its number -/
def Strm (H : Hp) (s b : Addr) : Prop := ∃ (ns : List Int) (c k : Int), H b = some (.lst (ns.map V.int)) ∧ H s = some (.lst [.ref b, .int c, .int k]) ∧ 0 ≤ c ∧ 0 ≤ k
theorem Strm.lst {H : Hp} {s b : Addr} (h : Strm H s b) : Lst H s := by
  obtain ⟨_, _, _, _, h, _⟩ := h
  exact ⟨_, h⟩
theorem Strm.same {H H' : Hp} {s b : Addr} (h : Strm H s b) (e : Same H H') : Strm H' s b := by
  obtain ⟨ns, c, k, h1, h2, h3, h4⟩ := h
  exact ⟨ns, c, k, e _ _ h1, e _ _ h2, h3, h4⟩
theorem Strm.over {H : Hp} {s b p : Addr} {o : HO} (h : Strm H s b) (n : H p = none) : Strm (upd H p o) s b := h.same (same_new n)
/-- a list of the law's own grows -/
theorem Strm.at {H : Hp} {s b p : Addr} {o : HO} (h : Strm H s b) (n1 : p ≠ s) (n2 : p ≠ b) : Strm (upd H p o) s b := by
  obtain ⟨ns, c, k, h1, h2, h3, h4⟩ := h
  exact ⟨ns, c, k, by rw [upd_ne n2.symm]; exact h1, by rw [upd_ne n1.symm]; exact h2, h3, h4⟩
theorem Strm.new1 {H : Hp} {s b p : Addr} (h : Strm H s b) (n : H p = none) : p ≠ s := by
  obtain ⟨ns, c, k, h1, h2, h3, h4⟩ := h
  exact (ne_of_none h2 n).symm
theorem Strm.new2 {H : Hp} {s b p : Addr} (h : Strm H s b) (n : H p = none) : p ≠ b := by
  obtain ⟨ns, c, k, h1, h2, h3, h4⟩ := h
  exact (ne_of_none h1 n).symm
theorem ints_no_ref {ns : List Int} {b : Addr} {r : List V} : HO.lst (ns.map V.int) ≠ HO.lst (.ref b :: r) := by
  intro e
  cases ns with
  | nil => injection e with e; cases e
  | cons n ns => injection e with e; injection e with e _; cases e
/-- the two objects of a stream stand apart -/
theorem Strm.ne {H : Hp} {b s : Addr} {ns : List Int} {x : Addr} {r : List V} (h1 : H b = some (.lst (ns.map V.int))) (h2 : H s = some (.lst (.ref x :: r))) : b ≠ s := ne_of h1 h2 ints_no_ref
/-! ## digits -/
theorem fmod_lt {a m : Int} (hm : 0 < m) : a.fmod m < m := by
  rw [Int.fmod_eq_emod_of_nonneg _ (Int.le_of_lt hm)]; exact Int.emod_lt_of_pos _ hm
theorem fmod_ge {a m : Int} (hm : 0 < m) : 0 ≤ a.fmod m := by
  rw [Int.fmod_eq_emod_of_nonneg _ (Int.le_of_lt hm)]; exact Int.emod_nonneg _ (by omega)
theorem div_ge {a m : Int} (ha : 0 ≤ a) (hm : 0 < m) : 0 ≤ a / m := Int.ediv_nonneg ha (Int.le_of_lt hm)
end My

namespace My
open PySem L2
/-! ## two values with the same content, to a depth below n -/
inductive Dq (K : PySem.W.Frag) (H : Hp) : Nat → V → V → Prop where
  | non (n : Nat) : Dq K H (n + 1) .non .non
  | bl (n : Nat) (b : Bool) : Dq K H (n + 1) (.bl b) (.bl b)
  | int (n : Nat) (i : Int) : Dq K H (n + 1) (.int i) (.int i)
  | str (n : Nat) (x : Str) : Dq K H (n + 1) (.str x) (.str x)
  | lst {n : Nat} {a b : Addr} {xs ys : List V} (h1 : SqL K H a xs) (h2 : SqL K H b ys) (hl : xs.length = ys.length) (hz : ys.length ≤ 1000)
      (h : ∀ (i : Nat) u v, xs[i]? = some u → ys[i]? = some v → Dq K H n u v) : Dq K H (n + 1) (.ref a) (.ref b)
  | tup {n : Nat} {a b : Addr} {xs ys : List V} (h1 : SqT K H a xs) (h2 : SqT K H b ys) (hl : xs.length = ys.length) (hz : ys.length ≤ 1000)
      (h : ∀ (i : Nat) u v, xs[i]? = some u → ys[i]? = some v → Dq K H n u v) : Dq K H (n + 1) (.ref a) (.ref b)
theorem Dq.same {K : PySem.W.Frag} {H H' : Hp} (e : Same H H') {n : Nat} {x y : V} (h : Dq K H n x y) : Dq K H' n x y := by
  induction h with
  | non n => exact .non n
  | bl n b => exact .bl n b
  | int n i => exact .int n i
  | str n x => exact .str n x
  | lst h1 h2 hl hz _ ih => exact .lst (e.seq h1) (e.seq h2) hl hz ih
  | tup h1 h2 hl hz _ ih => exact .tup (tSame e h1) (tSame e h2) hl hz ih
theorem get_at {xs : List V} {i : Nat} (h : i < xs.length) : xs[i]? = some xs[i] := List.getElem?_eq_getElem h
theorem line1000 {n : Nat} (h : n ≤ 1000) : n < 2 ^ 62 := Nat.lt_of_le_of_lt h (by decide)
end My

namespace My
open PySem L2
section
variable {K : PySem.W.Frag} {H H' : Hp} {a p s : Addr} {xs : List V} {o : HO}
/-- a new list stands behind a draw -/
theorem rBut {b : Addr} (e : But s (upd H p o) H') (n : H p = none) (S : Strm H s b) : H' p = some o := by
  obtain ⟨ns, c, k, h1, h2, _⟩ := S
  exact e p o (ne_of_none h2 n).symm upd_same
theorem tButS {b : Addr} (e : But s H H') (S : Strm H s b) (h : SqT K H a xs) : SqT K H' a xs := tBut e S.lst h
end
/-- one of the four -/
def Far (f : Int) : Prop := f = 2 ∨ f = 4 ∨ f = 9 ∨ f = 1000
theorem Far.le {f : Int} (h : Far f) : 2 ≤ f ∧ f ≤ 1000 := by unfold Far at h; omega
/-- a point within far -/
def In (f x y : Int) : Prop := -f ≤ x ∧ x ≤ f ∧ -f ≤ y ∧ y ≤ f
theorem In.on {f x y : Int} (h : In f x y) (hf : f ≤ 1000) : On x y := by unfold In at h; unfold On; omega
theorem atFour {α : Type} {a b c d : α} {i : Int} (h0 : 0 ≤ i) (h1 : i < 4) : ∃ v, atI [a, b, c, d] i = some v ∧ (v = a ∨ v = b ∨ v = c ∨ v = d) := by
  rcases (show i = 0 ∨ i = 1 ∨ i = 2 ∨ i = 3 by omega) with rfl | rfl | rfl | rfl
  · exact ⟨_, at0, .inl rfl⟩
  · exact ⟨_, at1, .inr (.inl rfl)⟩
  · exact ⟨_, at2, .inr (.inr (.inl rfl))⟩
  · exact ⟨_, at3, .inr (.inr (.inr rfl))⟩
theorem atThree {α : Type} {a b c : α} {i : Int} (h0 : 0 ≤ i) (h1 : i < 3) : ∃ v, atI [a, b, c] i = some v ∧ (v = a ∨ v = b ∨ v = c) := by
  rcases (show i = 0 ∨ i = 1 ∨ i = 2 by omega) with rfl | rfl | rfl
  · exact ⟨_, at0, .inl rfl⟩
  · exact ⟨_, at1, .inr (.inl rfl)⟩
  · exact ⟨_, at2, .inr (.inr rfl)⟩
/-! ## turns -/
theorem turn_cyc (ax ay bx dy cx cy : Int) : turnI bx dy cx cy ax ay = turnI ax ay bx dy cx cy := by unfold turnI; grind
theorem turn_swap (ax ay bx dy cx cy : Int) : turnI bx dy ax ay cx cy = 0 - turnI ax ay bx dy cx cy := by unfold turnI; grind
theorem turn_quarter (ax ay bx dy cx cy : Int) : turnI (0 - ay) ax (0 - dy) bx (0 - cy) cx = turnI ax ay bx dy cx cy := by unfold turnI; grind
theorem turn_mirror (ax ay bx dy cx cy : Int) : turnI (0 - ax) ay (0 - bx) dy (0 - cx) cy = 0 - turnI ax ay bx dy cx cy := by unfold turnI; grind
theorem turn_moved (ax ay bx dy cx cy d e : Int) : turnI (ax + d) (ay - e) (bx + d) (dy - e) (cx + d) (cy - e) = turnI ax ay bx dy cx cy := by unfold turnI; grind
theorem turn_four (ax ay bx dy cx cy ex ey : Int) : turnI ax ay bx dy cx cy + turnI ax ay cx cy ex ey = turnI ax ay bx dy ex ey + turnI bx dy cx cy ex ey := by unfold turnI; grind
end My
namespace My
open PySem L2
theorem two_ints {K : PySem.W.Frag} {H : Hp} {x y : Int} : ∀ v ∈ [V.int x, V.int y], ∃ m, Ty K H v m := by
  intro v hv
  rcases List.mem_cons.mp hv with rfl | hv
  · exact ⟨_, .int _⟩
  · rcases List.mem_cons.mp hv with rfl | hv
    · exact ⟨_, .int _⟩
    · cases hv
end My

namespace My
open PySem L2
/-! ## lists of points: each with where it stands -/
abbrev Zp := Addr × Int × Int
/-- what a list of points holds -/
abbrev refs (zs : List Zp) : List V := zs.map fun z => V.ref z.1
def Pts (K : PySem.W.Frag) (H : Hp) (zs : List Zp) : Prop := ∀ z ∈ zs, SqT K H z.1 [.int z.2.1, .int z.2.2]
section
variable {K : PySem.W.Frag} {H H' : Hp} {s b D p : Addr} {zs : List Zp} {z : Zp} {o : HO}
theorem Pts.nil : Pts K H [] := fun _ h => by cases h
theorem Pts.same (e : Same H H') (h : Pts K H zs) : Pts K H' zs := fun z hz => tSame e (h z hz)
theorem Pts.but (e : But s H H') (S : Strm H s b) (h : Pts K H zs) : Pts K H' zs := fun z hz => tButS e S (h z hz)
theorem Pts.over (n : H p = none) (h : Pts K H zs) : Pts K (upd H p o) zs := h.same (same_new n)
theorem Pts.at (n : ∃ ys, H D = some (.lst ys)) (h : Pts K H zs) : Pts K (upd H D o) zs := fun z hz => tAt n (h z hz)
theorem Pts.one (h : SqT K H z.1 [.int z.2.1, .int z.2.2]) : Pts K H [z] := fun y hy => by
  rw [List.mem_singleton] at hy; rw [hy]; exact h
theorem Pts.app {ys : List Zp} (h : Pts K H zs) (g : Pts K H ys) : Pts K H (zs ++ ys) := fun y hy =>
  (List.mem_append.mp hy).elim (h y) (g y)
theorem Pts.get (h : Pts K H zs) {i : Nat} (e : zs[i]? = some z) : SqT K H z.1 [.int z.2.1, .int z.2.2] := h z (List.mem_of_getElem? e)
end
theorem four_of {α : Type} {xs : List α} (h : xs.length = 4) : ∃ a b c d, xs = [a, b, c, d] := by
  match xs, h with
  | [a, b, c, d], _ => exact ⟨a, b, c, d, rfl⟩
theorem three_of {α : Type} {xs : List α} (h : xs.length = 3) : ∃ a b c, xs = [a, b, c] := by
  match xs, h with
  | [a, b, c], _ => exact ⟨a, b, c, rfl⟩
theorem line_of {n : Nat} (h : n ≤ 1000) : n < sizeLine := small1000 h
end My
namespace My
open PySem L2
def spLaw (K : PySem.W.Frag) : Sp := fun vs H Q _ => ∃ (a : Addr) (ns : List Int), vs = [.ref a] ∧ SqL K H a (ns.map V.int) ∧ ns.length ≤ 63 ∧ ∀ H', Q (.bl true) H'
theorem On.quarter {x y : Int} (h : On x y) : On (0 - y) x := by unfold On at *; omega
theorem On.mirror {x y : Int} (h : On x y) : On (0 - x) y := by unfold On at *; omega
end My

namespace My
open PySem L2
/-! ## greatest common divisors -/
theorem op_fdivV {X : Cx} : OpR X (binaryOp .FloorDiv) (rI (fun _ j => j ≠ 0 ∧ j.natAbs < 2 ^ 9000) fun i j => .int (i.fdiv j)) := opI fun i j _ _ _ _ _ hc q =>
  PyProof.Rows.floordiv_int hc.1 q (.inl (PyProof.noPylong_of_log2 (by
    by_cases z : j.natAbs = 0
    · rw [z]; decide
    · exact (Nat.log2_lt z).mpr hc.2)))
/-- the state of Euclid's loop behind i turns -/
structure GI (n d M i x y : Nat) : Prop where
  g : Nat.gcd x y = Nat.gcd n d
  hy : y * 2 ^ (i / 2) ≤ M
  hx : x * 2 ^ ((i - 1) / 2) ≤ M
  le : 1 ≤ i → y ≤ x
theorem GI.start {n d M : Nat} (h1 : n ≤ M) (h2 : d ≤ M) : GI n d M 0 n d := ⟨rfl, by simpa using h2, by simpa using h1, fun h => absurd h (by decide)⟩
theorem mod_half {x y : Nat} (h0 : 0 < y) (h : y ≤ x) : 2 * (x % y) ≤ x := by
  have h1 := Nat.mod_lt x h0
  have h2 := Nat.div_add_mod x y
  have h3 : 1 ≤ x / y := (Nat.le_div_iff_mul_le h0).mpr (by omega)
  have h4 : y * 1 ≤ y * (x / y) := Nat.mul_le_mul_left y h3
  omega
theorem GI.step {n d M i x y : Nat} (h : GI n d M i x y) (h0 : 0 < y) : GI n d M (i + 1) y (x % y) := by
  have hm := Nat.mod_lt x h0
  refine ⟨?_, ?_, ?_, fun _ => Nat.le_of_lt hm⟩
  · rw [← h.g, Nat.gcd_comm x y, Nat.gcd_rec y x, Nat.gcd_comm]
  · by_cases hi : 1 ≤ i
    · have e : (i + 1) / 2 = (i - 1) / 2 + 1 := by omega
      rw [e, Nat.pow_succ]
      have h2 := mod_half h0 (h.le hi)
      have h3 : 2 * (x % y) * 2 ^ ((i - 1) / 2) ≤ x * 2 ^ ((i - 1) / 2) := Nat.mul_le_mul_right _ h2
      have h4 := h.hx
      have e2 : x % y * (2 ^ ((i - 1) / 2) * 2) = 2 * (x % y) * 2 ^ ((i - 1) / 2) := by
        rw [Nat.mul_comm (2 ^ ((i - 1) / 2)) 2, ← Nat.mul_assoc, Nat.mul_comm (x % y) 2]
      omega
    · have e : i = 0 := by omega
      subst e
      have h4 : y * 2 ^ (0 / 2) ≤ M := h.hy
      have h5 : y * 2 ^ (0 / 2) = y := Nat.mul_one y
      show x % y * 2 ^ ((0 + 1) / 2) ≤ M
      have e2 : x % y * 2 ^ ((0 + 1) / 2) = x % y := Nat.mul_one _
      omega
  · have e : (i + 1 - 1) / 2 = i / 2 := by omega
    rw [e]
    exact h.hy
theorem GI.done {n d x y k : Nat} (h : GI n d (2 ^ k) 40000 x y) (hk : k < 20000) : y = 0 := by
  rcases Nat.eq_zero_or_pos y with z | z
  · exact z
  · have h1 : y * 2 ^ 20000 ≤ 2 ^ k := h.hy
    have h2 : 1 * 2 ^ 20000 ≤ y * 2 ^ 20000 := Nat.mul_le_mul_right _ z
    have h3 : 2 ^ k < 2 ^ 20000 := Nat.pow_lt_pow_right (by decide) hk
    rw [Nat.one_mul] at h2
    exact absurd (Nat.le_trans h2 h1) (Nat.not_le.mpr h3)
theorem abs_nat (i : Int) : (if i < 0 then -i else i) = (i.natAbs : Int) := by split <;> omega
theorem fmod_nat (x y : Nat) : ((x : Int).fmod (y : Int)) = ((x % y : Nat) : Int) := by
  rw [Int.fmod_eq_emod_of_nonneg _ (Int.natCast_nonneg y), Int.natCast_emod]
/-- the divisor with the sign of d -/
def sgcd (n d : Int) : Int := if d < 0 then 0 - (Nat.gcd n.natAbs d.natAbs : Int) else (Nat.gcd n.natAbs d.natAbs : Int)
def lowN (n d : Int) : Int := n.fdiv (sgcd n d)
def lowD (n d : Int) : Int := d.fdiv (sgcd n d)
theorem gcd_pos {n d : Int} (h : d ≠ 0) : 0 < Nat.gcd n.natAbs d.natAbs := Nat.gcd_pos_of_pos_right _ (by omega)
theorem sgcd_ne {n d : Int} (h : d ≠ 0) : sgcd n d ≠ 0 := by
  have := gcd_pos (n := n) h
  unfold sgcd
  split <;> omega
theorem sgcd_le {n d : Int} (h : d ≠ 0) : (sgcd n d).natAbs ≤ d.natAbs := by
  have h1 : Nat.gcd n.natAbs d.natAbs ≤ d.natAbs := Nat.le_of_dvd (by omega) (Nat.gcd_dvd_right _ _)
  unfold sgcd
  split <;> omega
/-- what the lowest terms are -/
structure LowOk (n d N D : Int) : Prop where
  mul : ∃ g : Int, g ≠ 0 ∧ n = g * N ∧ d = g * D
  pos : 0 < D
  one : Nat.gcd N.natAbs D.natAbs = 1
theorem fdiv_mul {g x : Int} (h : g ≠ 0) : (g * x).fdiv g = x := by
  rw [Int.fdiv_eq_ediv_of_dvd (Int.dvd_mul_right g x), Int.mul_ediv_cancel_left _ h]
theorem low_ok {n d : Int} (h : d ≠ 0) : LowOk n d (lowN n d) (lowD n d) := by
  have hg := gcd_pos (n := n) h
  have hs := sgcd_ne (n := n) h
  obtain ⟨a, ha⟩ := Nat.gcd_dvd_left n.natAbs d.natAbs
  obtain ⟨b, hb⟩ := Nat.gcd_dvd_right n.natAbs d.natAbs
  have co : Nat.gcd a b = 1 := by
    have e : Nat.gcd (Nat.gcd n.natAbs d.natAbs * a) (Nat.gcd n.natAbs d.natAbs * b) = Nat.gcd n.natAbs d.natAbs * Nat.gcd a b := Nat.gcd_mul_left _ _ _
    rw [← ha, ← hb] at e
    have e' : Nat.gcd n.natAbs d.natAbs * 1 = Nat.gcd n.natAbs d.natAbs * Nat.gcd a b := by rw [Nat.mul_one]; exact e
    exact (Nat.eq_of_mul_eq_mul_left hg e').symm
  -- both as multiples of the divisor
  have dn : sgcd n d ∣ n := by
    have : ((Nat.gcd n.natAbs d.natAbs : Nat) : Int) ∣ n := Int.ofNat_dvd_left.mpr (Nat.gcd_dvd_left _ _)
    unfold sgcd
    split
    · rw [Int.zero_sub]; exact Int.neg_dvd.mpr this
    · exact this
  have dd : sgcd n d ∣ d := by
    have : ((Nat.gcd n.natAbs d.natAbs : Nat) : Int) ∣ d := Int.ofNat_dvd_left.mpr (Nat.gcd_dvd_right _ _)
    unfold sgcd
    split
    · rw [Int.zero_sub]; exact Int.neg_dvd.mpr this
    · exact this
  obtain ⟨N, hN⟩ := dn
  obtain ⟨D, hD⟩ := dd
  have eN : lowN n d = N := by
    unfold lowN
    rw [show n.fdiv (sgcd n d) = (sgcd n d * N).fdiv (sgcd n d) from congrArg (fun z => Int.fdiv z (sgcd n d)) hN]
    exact fdiv_mul hs
  have eD : lowD n d = D := by
    unfold lowD
    rw [show d.fdiv (sgcd n d) = (sgcd n d * D).fdiv (sgcd n d) from congrArg (fun z => Int.fdiv z (sgcd n d)) hD]
    exact fdiv_mul hs
  have sa : (sgcd n d).natAbs = Nat.gcd n.natAbs d.natAbs := by unfold sgcd; split <;> omega
  have aN : N.natAbs = a := by
    have e := congrArg Int.natAbs hN
    rw [Int.natAbs_mul, sa] at e
    exact Nat.eq_of_mul_eq_mul_left hg (e.symm.trans ha)
  have aD : D.natAbs = b := by
    have e := congrArg Int.natAbs hD
    rw [Int.natAbs_mul, sa] at e
    exact Nat.eq_of_mul_eq_mul_left hg (e.symm.trans hb)
  rw [eN, eD]
  refine ⟨⟨_, hs, hN, hD⟩, ?_, by rw [aN, aD]; exact co⟩
  -- the sign
  have sg : (d < 0 → sgcd n d < 0) ∧ (0 ≤ d → 0 < sgcd n d) := by unfold sgcd; split <;> omega
  by_cases hd : d < 0
  · have s1 := sg.1 hd
    by_cases hp : 0 < D
    · exact hp
    · exfalso
      have : 0 ≤ sgcd n d * D := Int.mul_nonneg_of_nonpos_of_nonpos (by omega) (by omega)
      omega
  · have s1 := sg.2 (by omega)
    by_cases hp : 0 < D
    · exact hp
    · exfalso
      have : sgcd n d * D ≤ 0 := Int.mul_nonpos_of_nonneg_of_nonpos (by omega) (by omega)
      omega
theorem LowOk.leN {n d N D : Int} (h : LowOk n d N D) : N.natAbs ≤ n.natAbs := by
  obtain ⟨⟨g, hg, h1, _⟩, _, _⟩ := h
  rw [h1, Int.natAbs_mul]
  exact Nat.le_mul_of_pos_left _ (by omega)
theorem LowOk.leD {n d N D : Int} (h : LowOk n d N D) : D.natAbs ≤ d.natAbs := by
  obtain ⟨⟨g, hg, _, h1⟩, _, _⟩ := h
  rw [h1, Int.natAbs_mul]
  exact Nat.le_mul_of_pos_left _ (by omega)
/-! ## fractions as values -/
def fracB : List V → Bool
  | [.int n, .int d] => decide (1 ≤ d) && (Nat.gcd n.natAbs d.natAbs == 1)
  | _ => false
/-- x is a value of which is_fraction is b -/
def FV (K : PySem.W.Frag) (H : Hp) (x : V) (b : Bool) : Prop := ∃ n, Ty K H x n ∧ (n = "tuple" → ∃ a xs, x = .ref a ∧ SqT K H a xs ∧ (∀ v ∈ xs, ∃ m, Ty K H v m) ∧ b = fracB xs) ∧ (n ≠ "tuple" → b = false)
theorem Ty.same {K : PySem.W.Frag} {H H' : Hp} (e : Same H H') {v : V} {n : String} (h : Ty K H v n) : Ty K H' v n := by
  cases h with
  | non => exact .non
  | bl b => exact .bl b
  | int i => exact .int i
  | str x => exact .str x
  | tup h => exact .tup (tSame e h)
  | lst h => exact .lst (e.seq h)
theorem FV.same {K : PySem.W.Frag} {H H' : Hp} (e : Same H H') {x : V} {b : Bool} (h : FV K H x b) : FV K H' x b := by
  obtain ⟨n, t, h1, h2⟩ := h
  refine ⟨n, t.same e, fun q => ?_, h2⟩
  obtain ⟨a, xs, e1, e2, e3, e4⟩ := h1 q
  exact ⟨a, xs, e1, tSame e e2, fun v hv => by obtain ⟨m, hm⟩ := e3 v hv; exact ⟨m, hm.same e⟩, e4⟩
theorem FV.tup {K : PySem.W.Frag} {H : Hp} {a : Addr} {xs : List V} (h : SqT K H a xs) (hm : ∀ v ∈ xs, ∃ m, Ty K H v m) : FV K H (.ref a) (fracB xs) :=
  ⟨"tuple", .tup h, fun _ => ⟨a, xs, rfl, h, hm, rfl⟩, fun q => absurd rfl q⟩
theorem FV.ok {K : PySem.W.Frag} {H : Hp} {a : Addr} {n d : Int} (h : SqT K H a [.int n, .int d]) (h1 : 0 < d) (h2 : Nat.gcd n.natAbs d.natAbs = 1) : FV K H (.ref a) true := by
  have e : fracB [.int n, .int d] = true := by
    show (decide (1 ≤ d) && (Nat.gcd n.natAbs d.natAbs == 1)) = true
    rw [h2, decide_eq_true (show 1 ≤ d by omega)]
    rfl
  rw [← e]
  exact FV.tup h two_ints
theorem FV.no {K : PySem.W.Frag} {H : Hp} {v : V} {n : String} (h : Ty K H v n) (hn : n ≠ "tuple") : FV K H v false := ⟨n, h, fun q => absurd q hn, fun _ => rfl⟩
end My
namespace My
open PySem L2
/-- an error of the class at C with this name is raised -/
def Rz (C : Addr) (x : V) (H : Hp) (E : XK) : Prop := ∀ d, H d = none → E (.ref C) (some d) (upd H d (.xd [(("name" : Str), x)]))
theorem pow200 {i : Int} (h : i.natAbs ≤ 2 ^ 200) : i.natAbs < 2 ^ 9000 := Nat.lt_of_le_of_lt h (Nat.pow_lt_pow_right (by decide) (by decide))
end My
namespace My
theorem near_two {n d st : Int} (d0 : 0 < d) (h1 : st * d ≤ n) (h2 : n < (st + 1) * d) : (2 * n + d) / (2 * d) = if 2 * (st + 1) * d ≤ 2 * n + d then st + 1 else st := by
  have e1 : 2 * (st + 1) * d = (st + 1) * (2 * d) := by grind
  have e2 : (st + 2) * (2 * d) = 2 * ((st + 1) * d) + 2 * d := by grind
  have e3 : st * (2 * d) = 2 * (st * d) := by grind
  have e4 : (st + 1) * (2 * d) = 2 * ((st + 1) * d) := by grind
  have p : 0 < 2 * d := by omega
  by_cases q : 2 * (st + 1) * d ≤ 2 * n + d
  · rw [if_pos q]
    have a1 := (Int.le_ediv_iff_mul_le p).mpr (show (st + 1) * (2 * d) ≤ 2 * n + d by omega)
    have a2 := (Int.ediv_lt_iff_lt_mul p).mpr (show 2 * n + d < (st + 2) * (2 * d) by omega)
    omega
  · rw [if_neg q]
    have a1 := (Int.le_ediv_iff_mul_le p).mpr (show st * (2 * d) ≤ 2 * n + d by omega)
    have a2 := (Int.ediv_lt_iff_lt_mul p).mpr (show 2 * n + d < (st + 1) * (2 * d) by omega)
    omega
end My
namespace My
open PySem L2
theorem fracB_ne {xs : List V} (h : xs.length ≠ 2) : fracB xs = false := by
  unfold fracB
  split
  · exact absurd rfl h
  · rfl
end My

namespace My
open PySem L2
/-! ## fractions at an address -/
structure FrAt (K : PySem.W.Frag) (H : Hp) (a : Addr) (n d : Int) : Prop where
  at_ : SqT K H a [.int n, .int d]
  pos : 0 < d
  one : Nat.gcd n.natAbs d.natAbs = 1
  bn : n.natAbs ≤ 2 ^ 67
  bd : d.natAbs ≤ 2 ^ 50
section
variable {K : PySem.W.Frag} {H H' : Hp} {s b p a c D : Addr} {n d m e : Int} {o : HO}
theorem FrAt.same (e : Same H H') (h : FrAt K H a n d) : FrAt K H' a n d := { h with at_ := tSame e h.at_ }
theorem FrAt.but (e : But s H H') (S : Strm H s b) (h : FrAt K H a n d) : FrAt K H' a n d := { h with at_ := tButS e S h.at_ }
theorem FrAt.over (q : H p = none) (h : FrAt K H a n d) : FrAt K (upd H p o) a n d := h.same (same_new q)
theorem FrAt.put (q : ∃ ys, H D = some (.lst ys)) (h : FrAt K H a n d) : FrAt K (upd H D o) a n d := { h with at_ := tAt q h.at_ }
theorem FrAt.fv (h : FrAt K H a n d) : FV K H (.ref a) true := FV.ok h.at_ h.pos h.one
theorem wide {i j : Int} {x y : Nat} (hi : i.natAbs ≤ 2 ^ x) (hj : j.natAbs ≤ 2 ^ y) (h : x + y + 2 ≤ 1000000 := by decide) : CMulW i j :=
  wide_mul (a := x + 1) (b := y + 1) (Nat.lt_of_le_of_lt hi (Nat.pow_lt_pow_right (by decide) (by omega))) (Nat.lt_of_le_of_lt hj (Nat.pow_lt_pow_right (by decide) (by omega))) (by omega) (by omega) (by omega)
theorem mul_le {i j : Int} {x y : Nat} (hi : i.natAbs ≤ 2 ^ x) (hj : j.natAbs ≤ 2 ^ y) : (i * j).natAbs ≤ 2 ^ (x + y) := by
  rw [Int.natAbs_mul, Nat.pow_add]; exact Nat.mul_le_mul hi hj
theorem pow_up {i : Int} {x y : Nat} (h : i.natAbs ≤ 2 ^ x) (hy : x ≤ y := by decide) : i.natAbs ≤ 2 ^ y := Nat.le_trans h (Nat.pow_le_pow_right (by decide) hy)
theorem add_le {i j : Int} {x : Nat} (hi : i.natAbs ≤ 2 ^ x) (hj : j.natAbs ≤ 2 ^ x) : (i + j).natAbs ≤ 2 ^ (x + 1) := by
  have := Int.natAbs_add_le i j
  rw [Nat.pow_succ]; omega
theorem sub_le {i j : Int} {x : Nat} (hi : i.natAbs ≤ 2 ^ x) (hj : j.natAbs ≤ 2 ^ x) : (i - j).natAbs ≤ 2 ^ (x + 1) := by
  have := Int.natAbs_sub_le i j
  rw [Nat.pow_succ]; omega
theorem mul_ne {i j : Int} (hi : 0 < i) (hj : 0 < j) : i * j ≠ 0 := by
  have := Int.mul_pos hi hj; omega
theorem mul_ne' {i j : Int} (hi : 0 < i) (hj : j ≠ 0) : i * j ≠ 0 := Int.mul_ne_zero (by omega) hj
end
/-! ## what a try of the law tells -/
abbrev Rs := (Int × Int) ⊕ Str ⊕ Bool
def TV (K : PySem.W.Frag) (H : Hp) (v : V) : Rs → Prop
  | .inl (a, b) => ∃ p, v = .ref p ∧ SqT K H p [.int a, .int b]
  | .inr (.inl s) => ∃ p, v = .ref p ∧ SqL K H p [.str "refused", .str s]
  | .inr (.inr b) => v = .bl b
theorem TV.same {K : PySem.W.Frag} {H H' : Hp} (e : Same H H') {v : V} {r : Rs} (h : TV K H v r) : TV K H' v r := by
  match r, h with
  | .inl (a, b), ⟨p, e1, h⟩ => exact ⟨p, e1, tSame e h⟩
  | .inr (.inl s), ⟨p, e1, h⟩ => exact ⟨p, e1, e.seq h⟩
  | .inr (.inr b), h => exact h
theorem lAt {K : PySem.W.Frag} {H : Hp} {a D : Addr} {xs : List V} {o : HO} (n : a ≠ D) (h : SqL K H a xs) : SqL K (upd H D o) a xs := by
  rcases h with (h | ⟨o, h⟩) | h
  · exact .inl (.inl (by rw [upd_ne n]; exact h))
  · exact .inl (.inr ⟨o, by rw [upd_ne n]; exact h⟩)
  · exact .inr h
theorem TV.put {K : PySem.W.Frag} {H : Hp} {D : Addr} {o : HO} (q : ∃ ys, H D = some (.lst ys)) {v : V} {r : Rs} (n : v ≠ .ref D) (h : TV K H v r) : TV K (upd H D o) v r := by
  match r, h with
  | .inl (a, b), ⟨p, e1, h⟩ => exact ⟨p, e1, tAt q h⟩
  | .inr (.inl s), ⟨p, e1, h⟩ => exact ⟨p, e1, lAt (fun z => n (by rw [e1, z])) h⟩
  | .inr (.inr b), h => exact h
theorem two_get {α : Type} {P : α → α → Prop} {a b c d : α} (h0 : P a c) (h1 : P b d) : ∀ (i : Nat) u v, [a, b][i]? = some u → [c, d][i]? = some v → P u v := by
  intro i u v hu hv
  rcases (show i = 0 ∨ i = 1 by have := (List.getElem?_eq_some_iff.mp hu).1; simp at this; omega) with rfl | rfl
  · cases hu; cases hv; exact h0
  · cases hu; cases hv; exact h1
theorem TV.dq {K : PySem.W.Frag} {H : Hp} {u v : V} {r : Rs} (h : TV K H u r) (g : TV K H v r) : Dq K H 3 u v := by
  match r, h, g with
  | .inl (a, b), ⟨p, e1, h⟩, ⟨q, e2, g⟩ => rw [e1, e2]; exact .tup h g rfl (Nat.le_of_ble_eq_true rfl) (two_get (.int 1 _) (.int 1 _))
  | .inr (.inl s), ⟨p, e1, h⟩, ⟨q, e2, g⟩ => rw [e1, e2]; exact .lst h g rfl (Nat.le_of_ble_eq_true rfl) (two_get (.str 1 _) (.str 1 _))
  | .inr (.inr b), h, g =>
    have h : u = .bl b := h
    have g : v = .bl b := g
    rw [h, g]; exact .bl 2 b
/-- what the five give -/
def res (i : Int) (n d m e : Int) : Rs :=
  if i = 0 then .inl (lowN (n * e + m * d) (d * e), lowD (n * e + m * d) (d * e))
  else if i = 1 then .inl (lowN (n * e - m * d) (d * e), lowD (n * e - m * d) (d * e))
  else if i = 2 then .inl (lowN (n * m) (d * e), lowD (n * m) (d * e))
  else if i = 3 then (if m = 0 then .inr (.inl "second") else .inl (lowN (n * e) (d * m), lowD (n * e) (d * m)))
  else .inr (.inr (decide (n * e < m * d)))
end My
namespace My
open PySem L2
/-- a divisor: an int other than 0 -/
def okD : V → Bool
  | .int i => decide (i ≠ 0)
  | _ => false
theorem log_lt {i : Int} (h : i.natAbs ≤ 2 ^ 73) : i.natAbs.log2 < 1920 := by
  by_cases z : i.natAbs = 0
  · rw [z]; decide
  · exact (Nat.log2_lt z).mpr (Nat.lt_of_le_of_lt h (Nat.pow_lt_pow_right (by decide) (by decide)))
end My
namespace PySem
namespace Ord2
open PySem.W PySem.Calls PyProof.Rows
section
variable {prog : Program} {w : World} {A : Around} {E : Value → Shared → Prop} {s : Shared}
/-- the heap that stood, behind the tuple of the two -/
theorem kept2 {s : Shared} {o : Obj} : ∀ b u, s.heap.get? b = some u → (s.heap.push o).get? b = some u := fun _ _ e => Heap.get?_push_of_some _ e
/-- min(a, b) of two alike data: the first one, unless the second one is less -/
theorem min_two_data {a b : Value} {x y : PyData} {as bs : List Addr} {Q : Value → Shared → Prop} (hA : A.handled = none) (ra : Reads s.heap a x as) (rb : Reads s.heap b y bs) (al : AlikeAll [x, y]) (hu : A.units + 1 + PyData.depthAll [x, y] < cLine)
    (h : ∀ h' tk, (∀ c o, s.heap.get? c = some o → h'.get? c = some o) → Q (if dataLt y x = true then b else a) { s with heap := h', toks := tk }) : wpAny (model prog w) A (call (.builtin "min") [a, b]) Q E s := by
  have nm : (toString "min" ++ toString ".loop" : String) = "min.loop" := by decide
  have hT : (s.heap.push { cls := .type "tuple", data := .seq #[a, b] }).IsTuple s.heap.objs.size #[a, b] := ⟨_, Heap.get?_push_size _ rfl, rfl, 0, rfl⟩
  have rd : ReadsAll (s.heap.push { cls := .type "tuple", data := .seq #[a, b] }) (#[a, b] : Array Value).toList [x, y] (as ++ (bs ++ [])) := .cons (Reads.keeps kept2 ra) (.cons (Reads.keeps kept2 rb) .nil)
  refine call_function_tree F.kind_min F.plain_min F.entry_min (F.args_min2 _ _) ?_
  refine wpAny_bind (wpAny_of_eq (show Builtin.Builtins.bindParams "min" ["key", "default"] 0 ⟨[], []⟩ = pure [none, none] from rfl) ?_); show wpAny _ A.in1 (newTuple [a, b] >>= _) _ _ s
  refine wpAny_bind (wpAny_newObj_type (wpAny_bind (iter_tupleW (A := A.in1) (vs := #[a, b]) hA hT fun s₂ e W st hfp hw hk => ?_)))
  refine wpAny_bind (wpAny_newObj_type ?_)
  have nS : s₂.heap.objs.size ∉ [(s.heap.push { cls := .type "tuple", data := .seq #[a, b] }).objs.size, s.heap.objs.size] := fun hm => Nat.lt_irrefl _ (hfp _ hm)
  rw [nm]
  refine wpAny_pure ⟨plainId_quiet F.plain_min_loop _, codeAny_min_loop_firstH W (s.heap.push { cls := .type "tuple", data := .seq #[a, b] }) hw _ (cmpIn_lt (prog := prog) (w := w) (A := A.in1) (s := { s with heap := s.heap.push { cls := .type "tuple", data := .seq #[a, b] } }) (vs := #[a, b]) rd al (by show A.units + 1 + _ < _; exact hu)) s₂.heap.objs.size nS (fresh_in hk) _ (show 0 < 2 by decide)
    (fun c o q => Heap.get?_push_of_some _ (hk c o q)) (W.frame 0 s₂ _ s₂.toks st (Nat.le_refl _) fun c _ o q => Heap.get?_push_of_some _ q) (Heap.get?_push_size _ rfl) fun v s' hP hm => ?_⟩
  obtain ⟨h', tk, rfl, hk'⟩ := moved_old e rfl (Moved.drop_new (tk := s₂.toks) hm (Nat.le_refl _))
  have q := h h' tk fun c o z => hk' c o (kept2 c o z)
  have best : argBest (fun i j => dataLt (([x, y] : List PyData).getD i .none) (([x, y] : List PyData).getD j .none)) ((#[a, b] : Array Value).size - 1) = if dataLt y x = true then 1 else 0 := rfl
  rw [best] at hP
  by_cases c : dataLt y x = true
  · rw [if_pos c] at hP q
    obtain rfl : b = v := Option.some.inj hP
    exact q
  · rw [if_neg c] at hP q
    obtain rfl : a = v := Option.some.inj hP
    exact q
/-- max(a, b) of two alike data: the first one, unless the second one is greater -/
theorem max_two_data {a b : Value} {x y : PyData} {as bs : List Addr} {Q : Value → Shared → Prop} (hA : A.handled = none) (ra : Reads s.heap a x as) (rb : Reads s.heap b y bs) (al : AlikeAll [x, y]) (hu : A.units + 1 + PyData.depthAll [x, y] < cLine)
    (h : ∀ h' tk, (∀ c o, s.heap.get? c = some o → h'.get? c = some o) → Q (if dataLt x y = true then b else a) { s with heap := h', toks := tk }) : wpAny (model prog w) A (call (.builtin "max") [a, b]) Q E s := by
  have nm : (toString "max" ++ toString ".loop" : String) = "max.loop" := by decide
  have hT : (s.heap.push { cls := .type "tuple", data := .seq #[a, b] }).IsTuple s.heap.objs.size #[a, b] := ⟨_, Heap.get?_push_size _ rfl, rfl, 0, rfl⟩
  have rd : ReadsAll (s.heap.push { cls := .type "tuple", data := .seq #[a, b] }) (#[a, b] : Array Value).toList [x, y] (as ++ (bs ++ [])) := .cons (Reads.keeps kept2 ra) (.cons (Reads.keeps kept2 rb) .nil)
  refine call_function_tree F.kind_max F.plain_max F.entry_max (F.args_max2 _ _) ?_
  refine wpAny_bind (wpAny_of_eq (show Builtin.Builtins.bindParams "max" ["key", "default"] 0 ⟨[], []⟩ = pure [none, none] from rfl) ?_); show wpAny _ A.in1 (newTuple [a, b] >>= _) _ _ s
  refine wpAny_bind (wpAny_newObj_type (wpAny_bind (iter_tupleW (A := A.in1) (vs := #[a, b]) hA hT fun s₂ e W st hfp hw hk => ?_)))
  refine wpAny_bind (wpAny_newObj_type ?_)
  have nS : s₂.heap.objs.size ∉ [(s.heap.push { cls := .type "tuple", data := .seq #[a, b] }).objs.size, s.heap.objs.size] := fun hm => Nat.lt_irrefl _ (hfp _ hm)
  rw [nm]
  refine wpAny_pure ⟨plainId_quiet F.plain_max_loop _, codeAny_max_loop_firstH W (s.heap.push { cls := .type "tuple", data := .seq #[a, b] }) hw _ (cmpIn_gt (prog := prog) (w := w) (A := A.in1) (s := { s with heap := s.heap.push { cls := .type "tuple", data := .seq #[a, b] } }) (vs := #[a, b]) rd al (by show A.units + 1 + _ < _; exact hu)) s₂.heap.objs.size nS (fresh_in hk) _ (show 0 < 2 by decide)
    (fun c o q => Heap.get?_push_of_some _ (hk c o q)) (W.frame 0 s₂ _ s₂.toks st (Nat.le_refl _) fun c _ o q => Heap.get?_push_of_some _ q) (Heap.get?_push_size _ rfl) fun v s' hP hm => ?_⟩
  obtain ⟨h', tk, rfl, hk'⟩ := moved_old e rfl (Moved.drop_new (tk := s₂.toks) hm (Nat.le_refl _))
  have q := h h' tk fun c o z => hk' c o (kept2 c o z)
  have best : argBest (fun i j => dataLt (([x, y] : List PyData).getD j .none) (([x, y] : List PyData).getD i .none)) ((#[a, b] : Array Value).size - 1) = if dataLt x y = true then 1 else 0 := rfl
  rw [best] at hP
  by_cases c : dataLt x y = true
  · rw [if_pos c] at hP q
    obtain rfl : b = v := Option.some.inj hP
    exact q
  · rw [if_neg c] at hP q
    obtain rfl : a = v := Option.some.inj hP
    exact q
end
end Ord2
end PySem
namespace My
open PySem L2
/-- the order of points -/
def ltP (ax ay bx dy : Int) : Bool := decide (ax < bx ∨ (ax = bx ∧ ay < dy))
theorem OpR.of {X : Cx} {f : Value → Value → Sem Value} {r r' : R2} (h : OpR X f r) (w : ∀ x y H Q, r' x y H Q → r x y H Q) : OpR X f r' := by
  intro pins s σ H x y v u Q I rx ry q
  exact h pins s σ H x y v u Q I rx ry (w x y H Q q)
def pD (x y : Int) : PyData := .tuple [.int x, .int y]
theorem dP {K : PySem.W.Frag} {H : Hp} {a : Addr} {x y : Int} (h : SqT K H a [.int x, .int y]) : Dp K H (.ref a) (pD x y) := .tup h (.cons (.int _) (.cons (.int _) .nil))
theorem alikeP (ax ay bx dy : Int) : PySem.W.AlikeAll [pD ax ay, pD bx dy] := by
  unfold PySem.W.AlikeAll pD
  simp [PySem.W.alike, PySem.W.alikeAll]
theorem depthP (ax ay bx dy : Int) : PyData.depthAll [pD ax ay, pD bx dy] ≤ 8 := by
  unfold pD
  simp [PyData.depthAll, PyData.depth]
/-- two points, what is asked of a function of their numbers -/
def rPP (K : PySem.W.Frag) (f : Int → Int → Int → Int → V) : R2 := fun x y H Q => ∃ (a b : Addr) (ax ay bx dy : Int), x = .ref a ∧ y = .ref b ∧ SqT K H a [.int ax, .int ay] ∧ SqT K H b [.int bx, .int dy] ∧ Q (f ax ay bx dy) H
theorem lexLt2 (ax ay bx dy : Int) : HT.lexLt [ax, ay] [bx, dy] = ltP ax ay bx dy := by
  unfold ltP HT.lexLt HT.lexLt HT.lexLt
  by_cases h : ax = bx
  · subst h
    rw [if_pos rfl]
    by_cases g : ay = dy
    · subst g; rw [if_pos rfl]; simp
    · rw [if_neg g]; simp
  · rw [if_neg h]; simp [h]
theorem op_ltP {X : Cx} (hu : X.A.units < cLine) : OpR X (compareOp .Lt) (rPP X.K fun ax ay bx dy => .bl (ltP ax ay bx dy)) :=
  OpR.of (op_ltT hu) fun x y H Q ⟨a, b, ax, ay, bx, dy, e1, e2, ha, hb, q⟩ => ⟨a, b, [ax, ay], [bx, dy], e1, e2, ha, hb, by rw [lexLt2]; exact q⟩
theorem op_leP {X : Cx} (hu : X.A.units < cLine) : OpR X (compareOp .LtE) (rPP X.K fun ax ay bx dy => .bl (!ltP bx dy ax ay)) :=
  OpR.of (op_leT hu) fun x y H Q ⟨a, b, ax, ay, bx, dy, e1, e2, ha, hb, q⟩ => ⟨a, b, [ax, ay], [bx, dy], e1, e2, ha, hb, by
    have e : Ob.lexAt (fun j => decide (([ax, ay] : List Int).getD j 0 = ([bx, dy] : List Int).getD j 0)) (fun j => decide (([ax, ay] : List Int).getD j 0 ≤ ([bx, dy] : List Int).getD j 0)) (decide (([ax, ay] : List Int).length ≤ ([bx, dy] : List Int).length)) 0 (min ([ax, ay] : List Int).length ([bx, dy] : List Int).length) = !ltP bx dy ax ay := by
      show (if decide (ax = bx) = true then (if decide (ay = dy) = true then true else decide (ay ≤ dy)) else decide (ax ≤ bx)) = _
      unfold ltP
      by_cases h : ax = bx
      · subst h
        by_cases g : ay = dy
        · subst g; simp
        · have : decide (ay ≤ dy) = !decide (dy < ay) := by
            by_cases z : ay ≤ dy
            · rw [decide_eq_true z, decide_eq_false (by omega)]; rfl
            · rw [decide_eq_false z, decide_eq_true (by omega)]; rfl
          simp [g, this]
      · by_cases z : ax ≤ bx
        · have : ¬ bx < ax := by omega
          have h2 : ¬ bx = ax := fun e => h e.symm
          simp [h, z, this, h2]
        · have : bx < ax := by omega
          simp [h, z, this]
    rw [e]; exact q⟩
theorem eqvP (ax ay bx dy : Int) : PyData.eqv (pD ax ay) (pD bx dy) = decide (ax = bx ∧ ay = dy) := by
  unfold pD
  simp [PyData.eqv, PyData.eqvAll]
  by_cases h : ax = bx <;> by_cases g : ay = dy <;> simp [h, g]
theorem op_eqP {X : Cx} (hu : X.A.units + 64 < cLine) : OpR X (compareOp .Eq) (rPP X.K fun ax ay bx dy => .bl (decide (ax = bx ∧ ay = dy))) :=
  OpR.of (op_eqD hu) fun x y H Q ⟨a, b, ax, ay, bx, dy, e1, e2, ha, hb, q⟩ => by subst e1 e2; exact ⟨_, _, dP ha, dP hb, rfl, rfl, by rw [eqvP]; exact q⟩
theorem op_neP {X : Cx} (hu : X.A.units + 64 < cLine) : OpR X (compareOp .NotEq) (rPP X.K fun ax ay bx dy => .bl (!decide (ax = bx ∧ ay = dy))) :=
  OpR.of (op_neD hu) fun x y H Q ⟨a, b, ax, ay, bx, dy, e1, e2, ha, hb, q⟩ => by subst e1 e2; exact ⟨_, _, dP ha, dP hb, rfl, rfl, by rw [eqvP]; exact q⟩
/-- min, max of two points -/
def rMM (K : PySem.W.Frag) (f : Int → Int → Int → Int → Bool) : List V → Hp → VK → Prop := fun xs H Q => ∃ (a b : Addr) (ax ay bx dy : Int), xs = [.ref a, .ref b] ∧ SqT K H a [.int ax, .int ay] ∧ SqT K H b [.int bx, .int dy] ∧
  Q (.ref (if f ax ay bx dy = true then b else a)) H
theorem call_minP {X : Cx} (hc : X.calm = true) (hu : X.A.units + 64 < cLine) : CallR X (.builtin "min") (rMM X.K fun ax ay bx dy => ltP bx dy ax ay) := by
  intro pins s σ H xs us Q I r h
  obtain ⟨a, b, ax, ay, bx, dy, rfl, ha, hb, q⟩ := h
  obtain ⟨u, v, rfl, ru, rv⟩ := vals2 r
  obtain rfl : u = Value.ref a := ru
  obtain rfl : v = Value.ref b := rv
  obtain ⟨as, r1⟩ := Dp.reads I _ _ (.ref a) (dP ha) rfl
  obtain ⟨bs, r2⟩ := Dp.reads I _ _ (.ref b) (dP hb) rfl
  refine Ord2.min_two_data (I.ok.hd hc) r1 r2 (alikeP ..) (by have := depthP ax ay bx dy; omega) fun h' tk k => ⟨_, H, I.kept k, ?_, q⟩
  show _ = Value.ref _
  rw [show PySem.W.dataLt (pD bx dy) (pD ax ay) = ltP bx dy ax ay from PySem.W.dataLt_ii ..]
  split <;> rfl
theorem call_maxP {X : Cx} (hc : X.calm = true) (hu : X.A.units + 64 < cLine) : CallR X (.builtin "max") (rMM X.K fun ax ay bx dy => ltP ax ay bx dy) := by
  intro pins s σ H xs us Q I r h
  obtain ⟨a, b, ax, ay, bx, dy, rfl, ha, hb, q⟩ := h
  obtain ⟨u, v, rfl, ru, rv⟩ := vals2 r
  obtain rfl : u = Value.ref a := ru
  obtain rfl : v = Value.ref b := rv
  obtain ⟨as, r1⟩ := Dp.reads I _ _ (.ref a) (dP ha) rfl
  obtain ⟨bs, r2⟩ := Dp.reads I _ _ (.ref b) (dP hb) rfl
  refine Ord2.max_two_data (I.ok.hd hc) r1 r2 (alikeP ..) (by have := depthP ax ay bx dy; omega) fun h' tk k => ⟨_, H, I.kept k, ?_, q⟩
  show _ = Value.ref _
  rw [show PySem.W.dataLt (pD ax ay) (pD bx dy) = ltP ax ay bx dy from PySem.W.dataLt_ii ..]
  split <;> rfl
end My
namespace My
/-! ## a point and a segment: v from end to end, u from the first end to the point -/
theorem low_le {n1 d1 n2 d2 N1 D1 N2 D2 : Int} (L1 : LowOk n1 d1 N1 D1) (L2 : LowOk n2 d2 N2 D2) (p1 : 0 < d1) (p2 : 0 < d2) (h : n1 * d2 ≤ n2 * d1) : N1 * D2 ≤ N2 * D1 := by
  obtain ⟨⟨g1, _, e1, e2⟩, q1, _⟩ := L1
  obtain ⟨⟨g2, _, e3, e4⟩, q2, _⟩ := L2
  have g1p : 0 < g1 := by
    rcases Int.lt_or_le 0 g1 with z | z
    · exact z
    · have := Int.mul_nonpos_of_nonpos_of_nonneg z (Int.le_of_lt q1); omega
  have g2p : 0 < g2 := by
    rcases Int.lt_or_le 0 g2 with z | z
    · exact z
    · have := Int.mul_nonpos_of_nonpos_of_nonneg z (Int.le_of_lt q2); omega
  have gg := Int.mul_pos g1p g2p
  have h1 : g1 * g2 * (N1 * D2) ≤ g1 * g2 * (N2 * D1) := by
    have a1 : g1 * g2 * (N1 * D2) = n1 * d2 := by rw [e1, e4]; grind
    have a2 : g1 * g2 * (N2 * D1) = n2 * d1 := by rw [e3, e2]; grind
    omega
  exact Int.le_of_mul_le_mul_left h1 gg
/-- how far the point is from the place n / d of the way, times d, squared -/
def gapN (ux uy vx vy n d : Int) : Int := (ux * d - n * vx) * (ux * d - n * vx) + (uy * d - n * vy) * (uy * d - n * vy)
def sq (vx vy : Int) : Int := vx * vx + vy * vy
def dot (ux uy vx vy : Int) : Int := ux * vx + uy * vy
def crs (ux uy vx vy : Int) : Int := vx * uy - vy * ux
def clamp (al s : Int) : Int := if s < (if 0 > al then 0 else al) then s else (if 0 > al then 0 else al)
theorem gap_id (ux uy vx vy n d : Int) : sq vx vy * gapN ux uy vx vy n d = d * d * (crs ux uy vx vy * crs ux uy vx vy) + (d * dot ux uy vx vy - n * sq vx vy) * (d * dot ux uy vx vy - n * sq vx vy) := by
  unfold sq gapN crs dot; grind
theorem sq_mono {x y : Int} (h0 : 0 ≤ x) (h : x ≤ y) : x * x ≤ y * y := Int.mul_le_mul h h h0 (by omega)
theorem sq_neg {x y : Int} (h0 : x ≤ 0) (h : y ≤ x) : x * x ≤ y * y := by
  have := sq_mono (x := -x) (y := -y) (by omega) (by omega)
  rwa [Int.neg_mul_neg, Int.neg_mul_neg] at this
theorem sq_nn (x : Int) : 0 ≤ x * x := by
  rcases Int.le_total 0 x with h | h
  · exact Int.mul_nonneg h h
  · exact Int.mul_nonneg_of_nonpos_of_nonpos h h
theorem sq_pos {vx vy : Int} (h : vx ≠ 0 ∨ vy ≠ 0) : 0 < sq vx vy := by
  unfold sq
  have a := sq_nn vx
  have b := sq_nn vy
  rcases h with h | h
  · have : vx * vx ≠ 0 := Int.mul_ne_zero h h
    omega
  · have : vy * vy ≠ 0 := Int.mul_ne_zero h h
    omega
/-- the nearest place: no other one is nearer -/
theorem clamp_best {al s d2 n2 : Int} (hs : 0 < s) (h0 : 0 ≤ n2) (h1 : n2 ≤ d2) (hd : 0 < d2) : (d2 * al - d2 * clamp al s) * (d2 * al - d2 * clamp al s) ≤ (d2 * al - n2 * s) * (d2 * al - n2 * s) := by
  have hn : 0 ≤ n2 * s := Int.mul_nonneg h0 (by omega)
  have hm : n2 * s ≤ d2 * s := Int.mul_le_mul_of_nonneg_right h1 (by omega)
  unfold clamp
  by_cases c : 0 > al
  · rw [if_pos c, if_neg (by omega)]
    have : d2 * al ≤ 0 := Int.mul_nonpos_of_nonneg_of_nonpos (by omega) (by omega)
    exact sq_neg (by omega) (by omega)
  · rw [if_neg c]
    by_cases g : s < al
    · rw [if_pos g]
      have : d2 * s ≤ d2 * al := Int.mul_le_mul_of_nonneg_left (by omega) (by omega)
      exact sq_mono (by omega) (by omega)
    · rw [if_neg g, Int.sub_self, Int.zero_mul]
      exact sq_nn _
theorem foot_id {ux uy vx vy n d g : Int} (e1 : clamp (dot ux uy vx vy) (sq vx vy) = g * n) (e2 : sq vx vy = g * d) :
    sq vx vy * gapN ux uy vx vy n d = d * d * (crs ux uy vx vy * crs ux uy vx vy + (dot ux uy vx vy - clamp (dot ux uy vx vy) (sq vx vy)) * (dot ux uy vx vy - clamp (dot ux uy vx vy) (sq vx vy))) := by
  rw [gap_id]
  have : n * sq vx vy = clamp (dot ux uy vx vy) (sq vx vy) * d := by rw [e1, e2]; grind
  rw [this]; grind
theorem gap_least {ux uy vx vy n d n2 d2 : Int} (hs : 0 < sq vx vy) (L : LowOk (clamp (dot ux uy vx vy) (sq vx vy)) (sq vx vy) n d) (h0 : 0 ≤ n2) (h1 : n2 ≤ d2) (hd : 0 < d2) :
    gapN ux uy vx vy n d * (d2 * d2) ≤ gapN ux uy vx vy n2 d2 * (d * d) := by
  obtain ⟨⟨g, _, e1, e2⟩, dp, _⟩ := L
  have i1 := foot_id (ux := ux) (uy := uy) e1 e2
  have i2 := gap_id ux uy vx vy n2 d2
  have b := clamp_best (al := dot ux uy vx vy) hs h0 h1 hd
  have dd : 0 ≤ d * d := sq_nn d
  have b2 := Int.mul_le_mul_of_nonneg_left b dd
  refine Int.le_of_mul_le_mul_left (a := sq vx vy) ?_ hs
  generalize hT : crs ux uy vx vy * crs ux uy vx vy = t at i1 i2
  generalize gapN ux uy vx vy n d = g1 at i1 ⊢
  generalize gapN ux uy vx vy n2 d2 = g2 at i2 ⊢
  have r1 : sq vx vy * (g1 * (d2 * d2)) = d * d * (t + (dot ux uy vx vy - clamp (dot ux uy vx vy) (sq vx vy)) * (dot ux uy vx vy - clamp (dot ux uy vx vy) (sq vx vy))) * (d2 * d2) := by rw [← i1]; grind
  have r2 : sq vx vy * (g2 * (d * d)) = (d2 * d2 * t + (d2 * dot ux uy vx vy - n2 * sq vx vy) * (d2 * dot ux uy vx vy - n2 * sq vx vy)) * (d * d) := by rw [← i2]; grind
  rw [r1, r2]
  have r3 : d * d * (t + (dot ux uy vx vy - clamp (dot ux uy vx vy) (sq vx vy)) * (dot ux uy vx vy - clamp (dot ux uy vx vy) (sq vx vy))) * (d2 * d2) = d2 * d2 * t * (d * d) + d * d * ((d2 * dot ux uy vx vy - d2 * clamp (dot ux uy vx vy) (sq vx vy)) * (d2 * dot ux uy vx vy - d2 * clamp (dot ux uy vx vy) (sq vx vy))) := by grind
  have r4 : (d2 * d2 * t + (d2 * dot ux uy vx vy - n2 * sq vx vy) * (d2 * dot ux uy vx vy - n2 * sq vx vy)) * (d * d) = d2 * d2 * t * (d * d) + d * d * ((d2 * dot ux uy vx vy - n2 * sq vx vy) * (d2 * dot ux uy vx vy - n2 * sq vx vy)) := by grind
  rw [r3, r4]
  omega
/-! ### on the segment -/
/-- by the order of points -/
def onB (ux uy vx vy : Int) : Bool := decide (crs ux uy vx vy = 0) && (!ltP ux uy 0 0 && !ltP vx vy ux uy)
/-- by the ranges -/
def boxB (ux uy vx vy : Int) : Bool := decide (crs ux uy vx vy = 0) && ((decide ((if vx < 0 then vx else 0) ≤ ux) && decide (ux ≤ (if vx > 0 then vx else 0))) && (decide ((if vy < 0 then vy else 0) ≤ uy) && decide (uy ≤ (if vy > 0 then vy else 0))))
/-- on the line: between the ends exactly if the product is -/
theorem on_line {ux uy vx vy : Int} (hl : ltP 0 0 vx vy = true) (ht : crs ux uy vx vy = 0) :
    ((!ltP ux uy 0 0 && !ltP vx vy ux uy) = true ↔ 0 ≤ dot ux uy vx vy ∧ dot ux uy vx vy ≤ sq vx vy) ∧
    (((decide ((if vx < 0 then vx else 0) ≤ ux) && decide (ux ≤ (if vx > 0 then vx else 0))) && (decide ((if vy < 0 then vy else 0) ≤ uy) && decide (uy ≤ (if vy > 0 then vy else 0)))) = true ↔ 0 ≤ dot ux uy vx vy ∧ dot ux uy vx vy ≤ sq vx vy) := by
  have hv : 0 < vx ∨ (0 = vx ∧ 0 < vy) := of_decide_eq_true hl
  have ht : vx * uy = vy * ux := by unfold crs at ht; omega
  have hs : 0 < sq vx vy := sq_pos (by omega)
  rcases hv with hv | ⟨rfl, hv⟩
  · -- it goes to the right
    have e : sq vx vy * ux = dot ux uy vx vy * vx := by
      unfold sq dot
      have : vy * (vx * uy) = vy * (vy * ux) := by rw [ht]
      grind
    have k1 : 0 ≤ dot ux uy vx vy ↔ 0 ≤ ux := by
      constructor
      · intro h
        have := Int.mul_nonneg h (Int.le_of_lt hv)
        rw [← e] at this
        exact Int.nonneg_of_mul_nonneg_right this hs
      · intro h
        have := Int.mul_nonneg (Int.le_of_lt hs) h
        rw [e] at this
        exact Int.nonneg_of_mul_nonneg_left this hv
    have k2 : dot ux uy vx vy ≤ sq vx vy ↔ ux ≤ vx := by
      constructor
      · intro h
        have := Int.mul_le_mul_of_nonneg_right h (Int.le_of_lt hv)
        rw [← e] at this
        exact Int.le_of_mul_le_mul_left this hs
      · intro h
        have := Int.mul_le_mul_of_nonneg_left h (Int.le_of_lt hs)
        rw [e] at this
        exact Int.le_of_mul_le_mul_right this hv
    rw [k1, k2]
    have z0 : ux = 0 → uy = 0 := fun z => by
      rw [z, Int.mul_zero] at ht
      rcases Int.mul_eq_zero.mp ht with q | q <;> omega
    have z1 : ux = vx → uy = vy := fun z => by
      rw [z, Int.mul_comm vy vx] at ht
      exact Int.eq_of_mul_eq_mul_left (by omega) ht
    refine ⟨?_, ?_⟩
    · unfold ltP
      simp only [Bool.and_eq_true, Bool.not_eq_true', decide_eq_false_iff_not]
      omega
    · simp only [Bool.and_eq_true, decide_eq_true_eq]
      constructor
      · rintro ⟨⟨h1, h2⟩, _⟩
        rw [if_neg (by omega)] at h1
        rw [if_pos (by omega)] at h2
        exact ⟨h1, h2⟩
      · rintro ⟨h1, h2⟩
        refine ⟨⟨by rw [if_neg (by omega)]; exact h1, by rw [if_pos (by omega)]; exact h2⟩, ?_⟩
        rcases Int.lt_trichotomy vy 0 with y | y | y
        · have a1 : vy * ux ≤ 0 := Int.mul_nonpos_of_nonpos_of_nonneg (by omega) h1
          have a2 : vy * vx ≤ vy * ux := Int.mul_le_mul_of_nonpos_left (by omega) h2
          have a3 : uy ≤ 0 := by
            rcases Int.le_total uy 0 with q | q
            · exact q
            · rcases Int.lt_or_le 0 uy with r | r
              · have := Int.mul_pos hv r; omega
              · exact r
          have a4 : vy ≤ uy := by
            have : vx * vy ≤ vx * uy := by rw [ht, Int.mul_comm vx vy]; exact a2
            exact Int.le_of_mul_le_mul_left this hv
          rw [if_pos y, if_neg (by omega)]
          exact ⟨a4, a3⟩
        · have : uy = 0 := by
            rw [y, Int.zero_mul] at ht
            rcases Int.mul_eq_zero.mp ht with q | q <;> omega
          rw [if_neg (by omega), if_neg (by omega)]
          omega
        · have a1 : 0 ≤ vy * ux := Int.mul_nonneg (by omega) h1
          have a2 : vy * ux ≤ vy * vx := Int.mul_le_mul_of_nonneg_left h2 (by omega)
          have a3 : 0 ≤ uy := by
            rcases Int.lt_or_le uy 0 with r | r
            · have := Int.mul_neg_of_pos_of_neg hv r; omega
            · exact r
          have a4 : uy ≤ vy := by
            have : vx * uy ≤ vx * vy := by rw [ht, Int.mul_comm vx vy]; exact a2
            exact Int.le_of_mul_le_mul_left this hv
          rw [if_neg (by omega), if_pos y]
          exact ⟨a3, a4⟩
  · -- it goes up
    have u0 : ux = 0 := by
      rw [Int.zero_mul] at ht
      rcases Int.mul_eq_zero.mp ht.symm with q | q <;> omega
    subst u0
    have d1 : dot 0 uy 0 vy = uy * vy := by unfold dot; omega
    have d2 : sq 0 vy = vy * vy := by unfold sq; omega
    rw [d1, d2]
    have k1 : 0 ≤ uy * vy ↔ 0 ≤ uy := by
      constructor
      · intro h; exact Int.nonneg_of_mul_nonneg_left h hv
      · intro h; exact Int.mul_nonneg h (by omega)
    have k2 : uy * vy ≤ vy * vy ↔ uy ≤ vy := by
      constructor
      · intro h; exact Int.le_of_mul_le_mul_right h hv
      · intro h; exact Int.mul_le_mul_of_nonneg_right h (by omega)
    rw [k1, k2]
    refine ⟨?_, ?_⟩
    · clear k1 k2 d1 d2 hs
      unfold ltP
      simp only [Bool.and_eq_true, Bool.not_eq_true', decide_eq_false_iff_not]
      simp only [true_and]
      omega
    · simp only [Bool.and_eq_true, decide_eq_true_eq]
      rw [if_neg (show ¬ vy < 0 by omega), if_pos (show vy > 0 by omega)]
      simp
theorem on_same {ux uy vx vy : Int} (hv : ltP 0 0 vx vy = true) : onB ux uy vx vy = boxB ux uy vx vy := by
  unfold onB boxB
  by_cases ht : crs ux uy vx vy = 0
  · obtain ⟨k1, k2⟩ := on_line hv ht
    rw [decide_eq_true ht, Bool.true_and, Bool.true_and]
    exact Bool.eq_iff_iff.mpr (k1.trans k2.symm)
  · rw [decide_eq_false ht, Bool.false_and, Bool.false_and]
/-- the gap is 0 exactly on the segment -/
theorem gap_zero {ux uy vx vy n d N D : Int} (hv : ltP 0 0 vx vy = true) (L : LowOk (clamp (dot ux uy vx vy) (sq vx vy)) (sq vx vy) n d) (M : LowOk (gapN ux uy vx vy n d) (d * d) N D) :
    decide (N = 0 ∧ D = 1) = boxB ux uy vx vy := by
  have hv' : 0 < vx ∨ (0 = vx ∧ 0 < vy) := of_decide_eq_true hv
  have hs : 0 < sq vx vy := sq_pos (by omega)
  obtain ⟨⟨g, _, e1, e2⟩, dp, _⟩ := L
  have i1 := foot_id (ux := ux) (uy := uy) e1 e2
  -- the gap's number is 0 exactly if the point is on the line and the product in its range
  have z : gapN ux uy vx vy n d = 0 ↔ crs ux uy vx vy = 0 ∧ (0 ≤ dot ux uy vx vy ∧ dot ux uy vx vy ≤ sq vx vy) := by
    have cl : dot ux uy vx vy - clamp (dot ux uy vx vy) (sq vx vy) = 0 ↔ 0 ≤ dot ux uy vx vy ∧ dot ux uy vx vy ≤ sq vx vy := by
      unfold clamp
      split <;> split at * <;> omega
    rw [← cl]
    generalize dot ux uy vx vy - clamp (dot ux uy vx vy) (sq vx vy) = w at i1
    generalize crs ux uy vx vy = t at i1
    have a := sq_nn t
    have b := sq_nn w
    constructor
    · intro h
      rw [h, Int.mul_zero] at i1
      have dd : d * d ≠ 0 := Int.mul_ne_zero (by omega) (by omega)
      have s0 : t * t + w * w = 0 := by
        rcases Int.mul_eq_zero.mp i1.symm with q | q
        · exact absurd q dd
        · exact q
      have t0 : t * t = 0 := by omega
      have w0 : w * w = 0 := by omega
      exact ⟨by rcases Int.mul_eq_zero.mp t0 with q | q <;> exact q, by rcases Int.mul_eq_zero.mp w0 with q | q <;> exact q⟩
    · rintro ⟨rfl, rfl⟩
      have : sq vx vy * gapN ux uy vx vy n d = 0 := by rw [i1]; simp
      rcases Int.mul_eq_zero.mp this with q | q
      · omega
      · exact q
  have m : (N = 0 ∧ D = 1) ↔ gapN ux uy vx vy n d = 0 := by
    obtain ⟨⟨h, h0, f1, f2⟩, Dp, one⟩ := M
    constructor
    · rintro ⟨rfl, _⟩
      rw [f1, Int.mul_zero]
    · intro q
      rw [q] at f1
      have N0 : N = 0 := by
        rcases Int.mul_eq_zero.mp f1.symm with r | r
        · exact absurd r h0
        · exact r
      rw [N0] at one
      have one : Nat.gcd 0 D.natAbs = 1 := one
      rw [Nat.gcd_zero_left] at one
      exact ⟨N0, by omega⟩
  unfold boxB
  by_cases ht : crs ux uy vx vy = 0
  · obtain ⟨_, k2⟩ := on_line hv ht
    rw [decide_eq_true ht, Bool.true_and]
    refine Bool.eq_iff_iff.mpr ?_
    rw [decide_eq_true_eq, m, z, k2]
    exact ⟨fun h => h.2, fun h => ⟨ht, h⟩⟩
  · rw [decide_eq_false ht, Bool.false_and]
    exact decide_eq_false fun q => ht (z.mp (m.mp q)).1
end My
namespace My
open PySem L2
theorem ltP_sub (ax ay bx dy cx cy : Int) : ltP (ax - cx) (ay - cy) (bx - cx) (dy - cy) = ltP ax ay bx dy := by
  unfold ltP
  exact decide_eq_decide.mpr (by omega)
theorem ltP_sub0 (ax ay cx cy : Int) : ltP (ax - cx) (ay - cy) 0 0 = ltP ax ay cx cy := by
  unfold ltP
  exact decide_eq_decide.mpr (by omega)
theorem ltP_0sub (ax ay cx cy : Int) : ltP 0 0 (ax - cx) (ay - cy) = ltP cx cy ax ay := by
  unfold ltP
  exact decide_eq_decide.mpr (by omega)
/-- on the segment, told by the program -/
def onI (ax ay bx dy px py : Int) : Bool := decide (turnI ax ay bx dy px py = 0) && (!ltP px py ax ay && !ltP bx dy px py)
/-- on the segment, told by the law -/
def boxI (ax ay bx dy px py : Int) : Bool := decide (turnI ax ay bx dy px py = 0) && ((decide ((if bx < ax then bx else ax) ≤ px) && decide (px ≤ (if bx > ax then bx else ax))) && (decide ((if dy < ay then dy else ay) ≤ py) && decide (py ≤ (if dy > ay then dy else ay))))
theorem onI_B (ax ay bx dy px py : Int) : onI ax ay bx dy px py = onB (px - ax) (py - ay) (bx - ax) (dy - ay) := by
  unfold onI onB
  rw [ltP_sub0, ltP_sub]
  rfl
theorem boxI_B (ax ay bx dy px py : Int) : boxI ax ay bx dy px py = boxB (px - ax) (py - ay) (bx - ax) (dy - ay) := by
  have e1 : ∀ a b p : Int, decide ((if b < a then b else a) ≤ p) = decide ((if b - a < 0 then b - a else 0) ≤ p - a) := fun a b p => decide_eq_decide.mpr (by split <;> split <;> omega)
  have e2 : ∀ a b p : Int, decide (p ≤ (if b > a then b else a)) = decide (p - a ≤ (if b - a > 0 then b - a else 0)) := fun a b p => decide_eq_decide.mpr (by split <;> split <;> omega)
  unfold boxI boxB
  rw [e1 ax bx px, e2 ax bx px, e1 ay dy py, e2 ay dy py]
  rfl
theorem onI_box {ax ay bx dy px py : Int} (h : ltP ax ay bx dy = true) : onI ax ay bx dy px py = boxI ax ay bx dy px py := by
  rw [onI_B, boxI_B]
  exact on_same (by rw [ltP_0sub]; exact h)
theorem clamp_law {al s : Int} (h : 0 < s) : (if (if al < s then al else s) > 0 then (if al < s then al else s) else 0) = clamp al s := by
  unfold clamp
  split <;> split <;> split <;> (try split) <;> omega
/-- the numbers of a point of the map, from another one -/
theorem On.d {ax ay px py : Int} (h : On px py) (g : On ax ay) : ((px - ax).natAbs ≤ 2 ^ 11 ∧ (py - ay).natAbs ≤ 2 ^ 11) := by unfold On at h g; omega
theorem sq_le {vx vy : Int} (h : vx.natAbs ≤ 2 ^ 11 ∧ vy.natAbs ≤ 2 ^ 11) : (sq vx vy).natAbs ≤ 2 ^ 23 := add_le (mul_le h.1 h.1) (mul_le h.2 h.2)
theorem dot_le {ux uy vx vy : Int} (h : ux.natAbs ≤ 2 ^ 11 ∧ uy.natAbs ≤ 2 ^ 11) (g : vx.natAbs ≤ 2 ^ 11 ∧ vy.natAbs ≤ 2 ^ 11) : (dot ux uy vx vy).natAbs ≤ 2 ^ 23 := add_le (mul_le h.1 g.1) (mul_le h.2 g.2)
theorem clamp_le {al s : Int} (h : al.natAbs ≤ 2 ^ 23) (g : s.natAbs ≤ 2 ^ 23) : (clamp al s).natAbs ≤ 2 ^ 23 := by
  unfold clamp
  split <;> split at * <;> omega
theorem gap_le {ux uy vx vy n d : Int} (h : ux.natAbs ≤ 2 ^ 11 ∧ uy.natAbs ≤ 2 ^ 11) (g : vx.natAbs ≤ 2 ^ 11 ∧ vy.natAbs ≤ 2 ^ 11) (hn : n.natAbs ≤ 2 ^ 23) (hd : d.natAbs ≤ 2 ^ 23) :
    (ux * d - n * vx).natAbs ≤ 2 ^ 35 ∧ (uy * d - n * vy).natAbs ≤ 2 ^ 35 ∧ (gapN ux uy vx vy n d).natAbs ≤ 2 ^ 71 := by
  have e1 : (ux * d - n * vx).natAbs ≤ 2 ^ 35 := sub_le (x := 34) (mul_le (x := 11) (y := 23) h.1 hd) (mul_le (x := 23) (y := 11) hn g.1)
  have e2 : (uy * d - n * vy).natAbs ≤ 2 ^ 35 := sub_le (x := 34) (mul_le (x := 11) (y := 23) h.2 hd) (mul_le (x := 23) (y := 11) hn g.2)
  exact ⟨e1, e2, add_le (x := 70) (mul_le (x := 35) (y := 35) e1 e1) (mul_le (x := 35) (y := 35) e2 e2)⟩
theorem m64 {i : Int} {x : Nat} (h : i.natAbs ≤ 2 ^ x) (hx : x ≤ 63 := by decide) : -(2 ^ 64) < i ∧ i < 2 ^ 64 := by
  have : i.natAbs ≤ 2 ^ 63 := Nat.le_trans h (Nat.pow_le_pow_right (by decide) hx)
  omega
theorem ltP_ne {ax ay bx dy : Int} (h : ltP ax ay bx dy = true) : bx - ax ≠ 0 ∨ dy - ay ≠ 0 := by
  have := of_decide_eq_true h
  omega
/-- a segment at an address -/
structure SegAt (K : PySem.W.Frag) (H : Hp) (g a c : Addr) (ax ay bx dy : Int) : Prop where
  g : SqT K H g [.ref a, .ref c]
  a : SqT K H a [.int ax, .int ay]
  c : SqT K H c [.int bx, .int dy]
  oa : On ax ay
  oc : On bx dy
  lt : ltP ax ay bx dy = true
theorem SegAt.same {K : PySem.W.Frag} {H H' : Hp} {g a c : Addr} {ax ay bx dy : Int} (e : Same H H') (h : SegAt K H g a c ax ay bx dy) : SegAt K H' g a c ax ay bx dy := { h with g := tSame e h.g, a := tSame e h.a, c := tSame e h.c }
theorem SegAt.but {K : PySem.W.Frag} {H H' : Hp} {s b g a c : Addr} {ax ay bx dy : Int} (e : But s H H') (S : Strm H s b) (h : SegAt K H g a c ax ay bx dy) : SegAt K H' g a c ax ay bx dy := { h with g := tButS e S h.g, a := tButS e S h.a, c := tButS e S h.c }
end My
namespace My
open PySem L2
theorem three_get {α : Type} {P : α → α → Prop} {a b c x y z : α} (h0 : P a x) (h1 : P b y) (h2 : P c z) : ∀ (i : Nat) u v, [a, b, c][i]? = some u → [x, y, z][i]? = some v → P u v := by
  intro i u v hu hv
  rcases (show i = 0 ∨ i = 1 ∨ i = 2 by have := (List.getElem?_eq_some_iff.mp hu).1; simp at this; omega) with rfl | rfl | rfl
  · cases hu; cases hv; exact h0
  · cases hu; cases hv; exact h1
  · cases hu; cases hv; exact h2
end My
namespace My
open PySem L2
/-! ## the rest of the order of points: >, sorted -/
theorem op_gtP {X : Cx} (hu : X.A.units + 64 < cLine) : OpR X (compareOp .Gt) (rPP X.K fun ax ay bx dy => .bl (ltP bx dy ax ay)) := by
  intro pins s σ H x y v u Q I rx ry h
  obtain ⟨a, b, ax, ay, bx, dy, rfl, rfl, ha, hb, q⟩ := h
  obtain ⟨as, r1⟩ := Dp.reads I _ _ _ (dP ha) rx
  obtain ⟨bs, r2⟩ := Dp.reads I _ _ _ (dP hb) ry
  have al : PySem.W.alike (pD ax ay) (pD bx dy) = true := by
    unfold pD
    simp [PySem.W.alike, PySem.W.alikeAll]
  have hd : min (pD ax ay).depth (pD bx dy).depth ≤ 8 := by
    unfold pD
    simp [PyData.depthAll, PyData.depth]
  refine PySem.W.gt_data r1 r2 al (fun e => by cases e) (by omega) ⟨.bl _, H, I, rfl, ?_⟩
  rw [show PySem.W.dataLt (pD bx dy) (pD ax ay) = ltP bx dy ax ay from PySem.W.dataLt_ii ..]
  exact q
abbrev Pn := Addr × Int × Int
def pnD (b : Pn) : PyData := pD b.2.1 b.2.2
def pnV (b : Pn) : V := .ref b.1
/-- sorted(xs), xs a list of pairs of whole numbers -/
def rSortP (K : PySem.W.Frag) : List V → Hp → VK → Prop := fun vs H Q => ∃ (a : Addr) (bs : List Pn), vs = [V.ref a] ∧ SqL K H a (bs.map pnV) ∧ (∀ b ∈ bs, SqT K H b.1 [.int b.2.1, .int b.2.2]) ∧
  ∀ p, H p = none → Q (.ref p) (upd H p (.lst ((bs.mergeSort fun p q => decide (p.2.1 < q.2.1 ∨ (p.2.1 = q.2.1 ∧ p.2.2 ≤ q.2.2))).map pnV)))
theorem each_of_vals {R : Value → Pn → Prop} : ∀ {bs : List Pn} {us : List Value}, Vals (bs.map pnV) us → (∀ b ∈ bs, R (.ref b.1) b) → PySem.W.EachIs R us bs
  | [], _, .nil, _ => .nil
  | b :: bs, _, .cons r t, h => by
    have e : _ = Value.ref b.1 := r
    subst e
    exact .cons (h b List.mem_cons_self) (each_of_vals t fun x hx => h x (List.mem_cons_of_mem _ hx))
theorem vals_of_each : ∀ {bs : List Pn} {us : List Value}, PySem.W.EachIs (fun v b => v = Value.ref b.1) us bs → Vals (bs.map pnV) us
  | _, _, .nil => .nil
  | _, _, .cons e t => by
    subst e
    exact .cons (show RelV (.ref _) (.ref _) from rfl) (vals_of_each t)
theorem cr_sortP {X : Cx} (hu : X.A.units + 64 < cLine) : CallR X (.builtin "sorted") (rSortP X.K) := by
  intro pins s σ H vs us Q I r h
  obtain ⟨a, bs, rfl, hs, hb, q⟩ := h
  obtain ⟨its, rv, hl, hz⟩ := I.list hs
  rw [Vals.ref1 r]
  have hlen : bs.length ≤ sizeLine := by rwa [List.length_map] at hz
  have e1 : PySem.W.EachIs (fun v b => v = Value.ref b.1) its bs := each_of_vals rv fun b _ => rfl
  have e2 : PySem.W.EachIs (fun v b => ∃ as, Reads s.heap v (pnD b) as) its bs := each_of_vals rv fun b m => Dp.reads I _ (.ref b.1) _ (dP (hb b m)) rfl
  refine PySem.W.sorted_data (enc := pnD) hl.isList e1 e2 (PySem.W.AllAlike.of fun b b' => ?_) (PySem.W.Sortable.tuples fun b => ⟨_, _, rfl⟩) hlen (fun b _ => ?_) fun out ho eo => ?_
  · unfold pnD pD
    simp [PySem.W.alike, PySem.W.alikeAll]
  · have : (pnD b).depth ≤ 8 := by
      unfold pnD pD
      simp [PyData.depthAll, PyData.depth]
    omega
  · rw [show PySem.W.dataLe false pnD = fun p q : Pn => decide (p.2.1 < q.2.1 ∨ (p.2.1 = q.2.1 ∧ p.2.2 ≤ q.2.2)) from PySem.W.dataLe_ii (fun b : Pn => b.2.1) (fun b : Pn => b.2.2)] at eo
    have rv2 := vals_of_each eo
    have hp := I.hok.fresh (Nat.le_succ s.heap.objs.size)
    obtain ⟨ep, he'⟩ := PyProof.Rows.sortedAll_at s.heap its out.toArray
    refine ⟨.ref _, upd H (s.heap.objs.size + 1) (.lst _), I.laid (t' := s.toks) (fun _ _ => PyProof.Rows.sortedAll_old) (Nat.le_succ _) ⟨?_, out, ep, rv2, he'⟩, rfl, q _ hp⟩
    rw [List.length_map, List.length_mergeSort]
    exact hlen
/-- what it is -/
theorem sortP_perm (bs : List Pn) : (bs.mergeSort fun p q => decide (p.2.1 < q.2.1 ∨ (p.2.1 = q.2.1 ∧ p.2.2 ≤ q.2.2))).Perm bs := List.mergeSort_perm _ _
theorem sortP_le (bs : List Pn) : (bs.mergeSort fun p q => decide (p.2.1 < q.2.1 ∨ (p.2.1 = q.2.1 ∧ p.2.2 ≤ q.2.2))).Pairwise fun p q => ltP q.2.1 q.2.2 p.2.1 p.2.2 = false := by
  have h := List.pairwise_mergeSort (le := fun p q : Pn => decide (p.2.1 < q.2.1 ∨ (p.2.1 = q.2.1 ∧ p.2.2 ≤ q.2.2)))
    (fun a b c h1 h2 => by have := of_decide_eq_true h1; have := of_decide_eq_true h2; exact decide_eq_true (by omega))
    (fun a b => by simp only [Bool.or_eq_true, decide_eq_true_eq]; omega) bs
  refine h.imp fun {a b} h => decide_eq_false ?_
  have := of_decide_eq_true h
  omega
end My
namespace My
/-! ## how two segments meet: points as pairs -/
abbrev Pt := Int × Int
def tn (a b c : Pt) : Int := turnI a.1 a.2 b.1 b.2 c.1 c.2
def lt (a b : Pt) : Bool := ltP a.1 a.2 b.1 b.2
def on (p a b : Pt) : Bool := onI a.1 a.2 b.1 b.2 p.1 p.2
def box (p a b : Pt) : Bool := boxI a.1 a.2 b.1 b.2 p.1 p.2
theorem lt_iff {a b : Pt} : lt a b = true ↔ (a.1 < b.1 ∨ (a.1 = b.1 ∧ a.2 < b.2)) := by unfold lt ltP; rw [decide_eq_true_eq]
theorem lt_no {a b : Pt} : lt a b = false ↔ ¬ (a.1 < b.1 ∨ (a.1 = b.1 ∧ a.2 < b.2)) := by unfold lt ltP; rw [decide_eq_false_iff_not]
theorem pt_eq {a b : Pt} (h1 : a.1 = b.1) (h2 : a.2 = b.2) : a = b := Prod.ext h1 h2
theorem lt_trans {a b c : Pt} (h : lt a b = true) (g : lt b c = true) : lt a c = true := by rw [lt_iff] at *; omega
theorem lt_irr (a : Pt) : lt a a = false := by rw [lt_no]; omega
theorem lt_tri {a b : Pt} (h : lt a b = false) (g : lt b a = false) : a = b := by
  rw [lt_no] at h g
  exact pt_eq (by omega) (by omega)
theorem le_trans {a b c : Pt} (h : lt b a = false) (g : lt c b = false) : lt c a = false := by rw [lt_no] at *; omega
theorem lt_le {a b : Pt} (h : lt a b = true) : lt b a = false := by rw [lt_iff] at h; rw [lt_no]; omega
theorem le_lt {a b c : Pt} (h : lt b a = false) (g : lt b c = true) : lt a c = true := by rw [lt_no] at h; rw [lt_iff] at *; omega
theorem lt_le' {a b c : Pt} (h : lt a b = true) (g : lt c b = false) : lt a c = true := by rw [lt_no] at g; rw [lt_iff] at *; omega
theorem on_box {p a b : Pt} (h : lt a b = true) : on p a b = box p a b := onI_box h
theorem on_iff {p a b : Pt} : on p a b = true ↔ tn a b p = 0 ∧ lt p a = false ∧ lt b p = false := by
  unfold on onI tn lt
  simp only [Bool.and_eq_true, decide_eq_true_eq, Bool.not_eq_true']
theorem tn_a (a b : Pt) : tn a b a = 0 := by unfold tn turnI; grind
theorem tn_b (a b : Pt) : tn a b b = 0 := by unfold tn turnI; grind
theorem on_a {a b : Pt} (h : lt a b = true) : on a a b = true := on_iff.mpr ⟨tn_a a b, lt_irr a, lt_le h⟩
theorem on_b {a b : Pt} (h : lt a b = true) : on b a b = true := on_iff.mpr ⟨tn_b a b, lt_le h, lt_irr b⟩
/-- the four turns -/
theorem tn_four (a b c d : Pt) : tn c d a - tn c d b = tn a b d - tn a b c := by unfold tn turnI; grind
/-- where the lines meet, told from both -/
theorem tn_x (a b c d : Pt) : tn c d a * b.1 - tn c d b * a.1 = tn a b d * c.1 - tn a b c * d.1 := by unfold tn turnI; grind
theorem tn_y (a b c d : Pt) : tn c d a * b.2 - tn c d b * a.2 = tn a b d * c.2 - tn a b c * d.2 := by unfold tn turnI; grind
/-- a turn of a point, by its shift along -/
theorem tn_sub (a b p q : Pt) : tn a b p - tn a b q = (b.1 - a.1) * (p.2 - q.2) - (b.2 - a.2) * (p.1 - q.1) := by unfold tn turnI; grind
theorem tn_shift {a b c d : Pt} (hab : lt a b = true) (h1 : tn c d a = 0) (h2 : tn c d b = 0) : (b.1 - a.1) * (d.2 - c.2) = (b.2 - a.2) * (d.1 - c.1) := by
  have := tn_sub c d a b
  rw [h1, h2] at this
  grind
/-- two vectors along a third one that is not 0 -/
theorem par {x y u v w z : Int} (hn : x ≠ 0 ∨ y ≠ 0) (h1 : x * v = y * u) (h2 : x * z = y * w) : u * z = v * w := by
  rcases hn with hn | hn
  · have : x * (u * z) = x * (v * w) := by
      have e1 : x * (u * z) = u * (y * w) := by rw [← h2]; grind
      have e2 : x * (v * w) = w * (y * u) := by rw [← h1]; grind
      rw [e1, e2]; grind
    exact Int.eq_of_mul_eq_mul_left hn this
  · have : y * (u * z) = y * (v * w) := by
      have e1 : y * (u * z) = z * (x * v) := by rw [h1]; grind
      have e2 : y * (v * w) = v * (x * z) := by rw [h2]; grind
      rw [e1, e2]; grind
    exact Int.eq_of_mul_eq_mul_left hn this
theorem lt_vec {a b : Pt} (h : lt a b = true) : b.1 - a.1 ≠ 0 ∨ b.2 - a.2 ≠ 0 := by rw [lt_iff] at h; omega
theorem ne_vec {a b : Pt} (h : a ≠ b) : b.1 - a.1 ≠ 0 ∨ b.2 - a.2 ≠ 0 := by
  by_cases h1 : b.1 - a.1 = 0
  · by_cases h2 : b.2 - a.2 = 0
    · exact absurd (pt_eq (by omega) (by omega)) h
    · exact .inr h2
  · exact .inl h1
/-- the ends of one segment on the line of the other: then the other's on its line -/
theorem line_sym {a b c d : Pt} (hab : lt a b = true) (hcd : lt c d = true) (h1 : tn c d a = 0) (h2 : tn c d b = 0) : tn a b c = 0 ∧ tn a b d = 0 := by
  have s := tn_shift hab h1 h2
  have w := lt_vec hcd
  have e1 : (d.1 - c.1) * (a.2 - c.2) = (d.2 - c.2) * (a.1 - c.1) := by
    have := tn_sub c d a c
    rw [h1, tn_a] at this
    omega
  have e2 : (d.1 - c.1) * (b.2 - a.2) = (d.2 - c.2) * (b.1 - a.1) := by grind
  have p := par w e1 e2
  have c0 : tn a b c = 0 := by
    have := tn_sub a b c a
    rw [tn_a] at this
    grind
  have f := tn_four a b c d
  rw [h1, h2] at f
  exact ⟨c0, by omega⟩
/-- two common points of two lines: one line -/
theorem two_points {a b c d p q : Pt} (hab : lt a b = true) (hcd : lt c d = true) (hp : tn a b p = 0) (hq : tn a b q = 0) (gp : tn c d p = 0) (gq : tn c d q = 0) (n : p ≠ q) : tn c d a = 0 ∧ tn c d b = 0 := by
  have v := lt_vec hab
  have k := ne_vec n
  have e1 : (b.1 - a.1) * (q.2 - p.2) = (b.2 - a.2) * (q.1 - p.1) := by
    have := tn_sub a b q p
    rw [hp, hq] at this; omega
  have e2 : (d.1 - c.1) * (q.2 - p.2) = (d.2 - c.2) * (q.1 - p.1) := by
    have := tn_sub c d q p
    rw [gp, gq] at this; omega
  -- both along q - p
  have e3 : (b.1 - a.1) * (d.2 - c.2) = (b.2 - a.2) * (d.1 - c.1) := by
    have f1 : (q.1 - p.1) * (b.2 - a.2) = (q.2 - p.2) * (b.1 - a.1) := by grind
    have f2 : (q.1 - p.1) * (d.2 - c.2) = (q.2 - p.2) * (d.1 - c.1) := by grind
    exact par k f1 f2
  have e4 : (b.1 - a.1) * (p.2 - a.2) = (b.2 - a.2) * (p.1 - a.1) := by
    have := tn_sub a b p a
    rw [hp, tn_a] at this; omega
  have e5 := par v e4 e3
  have z : tn c d a = 0 := by
    have := tn_sub c d a p
    rw [gp] at this
    grind
  have s := tn_sub c d a b
  have : tn c d b = 0 := by rw [z] at s; grind
  exact ⟨z, this⟩
/-! ### the program's answer -/
inductive Mt where
  | none | touch (p : Pt) | over (p q : Pt) | cross (x y : Int × Int)
def mx (a b : Int) : Int := if b > a then b else a
def mn (a b : Int) : Int := if b < a then b else a
def apartB (a b c d : Pt) : Bool := (decide (b.1 < c.1) || decide (d.1 < a.1)) || (decide (mx a.2 b.2 < mn c.2 d.2) || decide (mx c.2 d.2 < mn a.2 b.2))
def low (a c : Pt) : Pt := if lt a c = true then c else a
def high (b d : Pt) : Pt := if lt d b = true then d else b
def lineM (a b c d : Pt) : Mt := if lt (high b d) (low a c) = true then .none else if low a c = high b d then .touch (low a c) else .over (low a c) (high b d)
def endM (a b c d : Pt) : Option Pt := if on a c d = true then some a else if on b c d = true then some b else if on c a b = true then some c else if on d a b = true then some d else none
def cutN (u v be af : Int) : Int := u * (be - af) + be * (v - u)
def cross (a b : Pt) (be af : Int) : Mt := .cross (lowN (cutN a.1 b.1 be af) (be - af), lowD (cutN a.1 b.1 be af) (be - af)) (lowN (cutN a.2 b.2 be af) (be - af), lowD (cutN a.2 b.2 be af) (be - af))
def meetM (a b c d : Pt) : Mt :=
  if apartB a b c d = true then .none
  else if tn c d a = 0 ∧ tn c d b = 0 then lineM a b c d
  else match endM a b c d with
    | some p => .touch p
    | none => if tn c d a * tn c d b < 0 ∧ tn a b c * tn a b d < 0 then cross a b (tn c d a) (tn c d b) else .none
/-! ### the law's answer -/
/-- the ends that lie on the other segment -/
def ends (a b c d : Pt) : List Pt := (if on a c d = true then [a] else []) ++ (if on b c d = true then [b] else []) ++ (if on c a b = true then [c] else []) ++ (if on d a b = true then [d] else [])
theorem mem_ends {a b c d p : Pt} : p ∈ ends a b c d ↔ (p = a ∧ on a c d = true) ∨ (p = b ∧ on b c d = true) ∨ (p = c ∧ on c a b = true) ∨ (p = d ∧ on d a b = true) := by
  unfold ends
  simp only [List.mem_append]
  constructor
  · rintro (((h | h) | h) | h)
    all_goals (split at h <;> simp at h)
    · exact .inl ⟨h, by assumption⟩
    · exact .inr (.inl ⟨h, by assumption⟩)
    · exact .inr (.inr (.inl ⟨h, by assumption⟩))
    · exact .inr (.inr (.inr ⟨h, by assumption⟩))
  · rintro (⟨rfl, h⟩ | ⟨rfl, h⟩ | ⟨rfl, h⟩ | ⟨rfl, h⟩)
    · exact .inl (.inl (.inl (by rw [if_pos h]; simp)))
    · exact .inl (.inl (.inr (by rw [if_pos h]; simp)))
    · exact .inl (.inr (by rw [if_pos h]; simp))
    · exact .inr (by rw [if_pos h]; simp)
/-- each of them lies on both -/
theorem ends_on {a b c d p : Pt} (hab : lt a b = true) (hcd : lt c d = true) (h : p ∈ ends a b c d) : on p a b = true ∧ on p c d = true := by
  rcases mem_ends.mp h with ⟨rfl, h⟩ | ⟨rfl, h⟩ | ⟨rfl, h⟩ | ⟨rfl, h⟩
  · exact ⟨on_a hab, h⟩
  · exact ⟨on_b hab, h⟩
  · exact ⟨h, on_a hcd⟩
  · exact ⟨h, on_b hcd⟩
/-- apart: nothing is on both -/
theorem on_range {p a b : Pt} (hab : lt a b = true) (h : on p a b = true) : a.1 ≤ p.1 ∧ p.1 ≤ b.1 ∧ mn a.2 b.2 ≤ p.2 ∧ p.2 ≤ mx a.2 b.2 := by
  rw [on_box hab] at h
  unfold box boxI at h
  simp only [Bool.and_eq_true, decide_eq_true_eq] at h
  obtain ⟨_, ⟨h1, h2⟩, h3, h4⟩ := h
  rw [lt_iff] at hab
  unfold mn mx
  refine ⟨?_, ?_, h3, h4⟩
  · split at h1 <;> omega
  · split at h2 <;> omega
theorem apart_none {a b c d p : Pt} (hab : lt a b = true) (hcd : lt c d = true) (h1 : on p a b = true) (h2 : on p c d = true) : apartB a b c d = false := by
  have r1 := on_range hab h1
  have r2 := on_range hcd h2
  unfold apartB
  simp only [Bool.or_eq_false_iff, decide_eq_false_iff_not]
  omega
/-- they cross within: no boxes apart -/
theorem weigh {W x y u v lo hi : Int} (hx : 0 < x) (hy : 0 < y) (hu : lo ≤ u ∧ u ≤ hi) (hv : lo ≤ v ∧ v ≤ hi) (hW : W = x * u + y * v) : (x + y) * lo ≤ W ∧ W ≤ (x + y) * hi := by
  have a1 := Int.mul_le_mul_of_nonneg_left hu.1 (Int.le_of_lt hx)
  have a2 := Int.mul_le_mul_of_nonneg_left hu.2 (Int.le_of_lt hx)
  have a3 := Int.mul_le_mul_of_nonneg_left hv.1 (Int.le_of_lt hy)
  have a4 := Int.mul_le_mul_of_nonneg_left hv.2 (Int.le_of_lt hy)
  rw [Int.add_mul, Int.add_mul]
  omega
theorem ranges_meet {x y z w a b c d W : Int} (hx : 0 < x) (hy : 0 < y) (hz : 0 < z) (hw : 0 < w) (hs : x + y = z + w) (h1 : W = x * a + y * b) (h2 : W = z * c + w * d) : mn a b ≤ mx c d ∧ mn c d ≤ mx a b := by
  have m1 := weigh (lo := mn a b) (hi := mx a b) hx hy (by unfold mn mx; split <;> split <;> omega) (by unfold mn mx; split <;> split <;> omega) h1
  have m2 := weigh (lo := mn c d) (hi := mx c d) hz hw (by unfold mn mx; split <;> split <;> omega) (by unfold mn mx; split <;> split <;> omega) h2
  rw [← hs] at m2
  have p : 0 < x + y := by omega
  exact ⟨Int.le_of_mul_le_mul_left (Int.le_trans m1.1 m2.2) p, Int.le_of_mul_le_mul_left (Int.le_trans m2.1 m1.2) p⟩
theorem neg_signs {x y : Int} (h : x * y < 0) : (0 < x ∧ y < 0) ∨ (x < 0 ∧ 0 < y) := by
  rcases Int.lt_trichotomy x 0 with a | a | a <;> rcases Int.lt_trichotomy y 0 with b | b | b
  · have := Int.mul_pos_of_neg_of_neg a b; omega
  · rw [b, Int.mul_zero] at h; omega
  · exact .inr ⟨a, b⟩
  · rw [a, Int.zero_mul] at h; omega
  · rw [a, Int.zero_mul] at h; omega
  · rw [a, Int.zero_mul] at h; omega
  · exact .inl ⟨a, b⟩
  · rw [b, Int.mul_zero] at h; omega
  · have := Int.mul_pos a b; omega
theorem cross_near {a b c d : Pt} (hab : lt a b = true) (hcd : lt c d = true) (h1 : tn c d a * tn c d b < 0) (h2 : tn a b c * tn a b d < 0) : apartB a b c d = false := by
  have f := tn_four a b c d
  have ex := tn_x a b c d
  have ey := tn_y a b c d
  have key : (mn a.1 b.1 ≤ mx c.1 d.1 ∧ mn c.1 d.1 ≤ mx a.1 b.1) ∧ (mn a.2 b.2 ≤ mx c.2 d.2 ∧ mn c.2 d.2 ≤ mx a.2 b.2) := by
    rcases neg_signs h1 with ⟨p1, p2⟩ | ⟨p1, p2⟩
    · have q : 0 < tn a b d ∧ tn a b c < 0 := by rcases neg_signs h2 with ⟨q1, q2⟩ | ⟨q1, q2⟩ <;> omega
      refine ⟨ranges_meet (x := -tn c d b) (y := tn c d a) (z := tn a b d) (w := -tn a b c) (by omega) p1 q.1 (by omega) (by omega) rfl (by grind), ranges_meet (x := -tn c d b) (y := tn c d a) (z := tn a b d) (w := -tn a b c) (by omega) p1 q.1 (by omega) (by omega) rfl (by grind)⟩
    · have q : 0 < tn a b c ∧ tn a b d < 0 := by rcases neg_signs h2 with ⟨q1, q2⟩ | ⟨q1, q2⟩ <;> omega
      refine ⟨ranges_meet (x := tn c d b) (y := -tn c d a) (z := -tn a b d) (w := tn a b c) p2 (by omega) (by omega) q.1 (by omega) rfl (by grind), ranges_meet (x := tn c d b) (y := -tn c d a) (z := -tn a b d) (w := tn a b c) p2 (by omega) (by omega) q.1 (by omega) rfl (by grind)⟩
  rw [lt_iff] at hab hcd
  unfold apartB
  simp only [Bool.or_eq_false_iff, decide_eq_false_iff_not]
  obtain ⟨⟨k1, k2⟩, k3, k4⟩ := key
  refine ⟨⟨?_, ?_⟩, ?_, ?_⟩
  · unfold mn mx at k2; split at k2 <;> split at k2 <;> omega
  · unfold mn mx at k1; split at k1 <;> split at k1 <;> omega
  · omega
  · omega
end My
namespace My
/-! ### the two answers agree -/
theorem low_case (a c : Pt) : (low a c = a ∧ lt a c = false) ∨ (low a c = c ∧ lt a c = true) := by
  unfold low
  by_cases h : lt a c = true
  · rw [if_pos h]; exact .inr ⟨rfl, h⟩
  · rw [if_neg h]; exact .inl ⟨rfl, by cases e : lt a c <;> simp_all⟩
theorem high_case (b d : Pt) : (high b d = b ∧ lt d b = false) ∨ (high b d = d ∧ lt d b = true) := by
  unfold high
  by_cases h : lt d b = true
  · rw [if_pos h]; exact .inr ⟨rfl, h⟩
  · rw [if_neg h]; exact .inl ⟨rfl, by cases e : lt d b <;> simp_all⟩
/-- on one line: a point of it is on both exactly if it lies between the greater first end and the lesser last end -/
theorem line_on {a b c d p : Pt} (h1 : tn a b p = 0) (h2 : tn c d p = 0) : (on p a b = true ∧ on p c d = true) ↔ lt p (low a c) = false ∧ lt (high b d) p = false := by
  rw [on_iff, on_iff]
  constructor
  · rintro ⟨⟨_, x1, x2⟩, _, x3, x4⟩
    refine ⟨?_, ?_⟩
    · rcases low_case a c with ⟨e, _⟩ | ⟨e, _⟩ <;> rw [e] <;> assumption
    · rcases high_case b d with ⟨e, _⟩ | ⟨e, _⟩ <;> rw [e] <;> assumption
  · rintro ⟨x1, x2⟩
    have y1 : lt p a = false ∧ lt p c = false := by
      rcases low_case a c with ⟨e, g⟩ | ⟨e, g⟩ <;> rw [e] at x1
      · exact ⟨x1, le_trans g x1⟩
      · exact ⟨le_trans (lt_le g) x1, x1⟩
    have y2 : lt b p = false ∧ lt d p = false := by
      rcases high_case b d with ⟨e, g⟩ | ⟨e, g⟩ <;> rw [e] at x2
      · exact ⟨x2, le_trans x2 g⟩
      · exact ⟨le_trans x2 (lt_le g), x2⟩
    exact ⟨⟨h1, y1.1, y2.1⟩, h2, y1.2, y2.2⟩
/-- what the law wants of the answer m -/
structure Right (a b c d : Pt) (m : Mt) : Prop where
  none_ : ends a b c d = [] → (0 ≤ tn a b c * tn a b d ∨ 0 ≤ tn c d a * tn c d b) → m = .none
  touch_ : ∀ p, p ∈ ends a b c d → (∀ q ∈ ends a b c d, q = p) → m = .touch p
  over_ : ∀ p q, p ∈ ends a b c d → q ∈ ends a b c d → p ≠ q → (∀ r ∈ ends a b c d, lt r p = false ∧ lt q r = false) → m = .over p q
  cross_ : ends a b c d = [] → tn a b c * tn a b d < 0 → tn c d a * tn c d b < 0 → m = cross a b (tn c d a) (tn c d b)
theorem endM_none {a b c d : Pt} : endM a b c d = none ↔ ends a b c d = [] := by
  unfold endM ends
  by_cases h1 : on a c d = true
  · simp [h1]
  · by_cases h2 : on b c d = true
    · simp [h1, h2]
    · by_cases h3 : on c a b = true
      · simp [h1, h2, h3]
      · by_cases h4 : on d a b = true
        · simp [h1, h2, h3, h4]
        · simp [h1, h2, h3, h4]
theorem endM_some {a b c d p : Pt} (h : endM a b c d = some p) : p ∈ ends a b c d := by
  rw [mem_ends]
  unfold endM at h
  split at h
  · cases h; exact .inl ⟨rfl, by assumption⟩
  · split at h
    · cases h; exact .inr (.inl ⟨rfl, by assumption⟩)
    · split at h
      · cases h; exact .inr (.inr (.inl ⟨rfl, by assumption⟩))
      · split at h
        · cases h; exact .inr (.inr (.inr ⟨rfl, by assumption⟩))
        · cases h
theorem meet_right {a b c d : Pt} (hab : lt a b = true) (hcd : lt c d = true) : Right a b c d (meetM a b c d) := by
  by_cases hap : apartB a b c d = true
  · have e : meetM a b c d = .none := by unfold meetM; rw [if_pos hap]
    have no : ∀ p, p ∉ ends a b c d := fun p hp => by
      obtain ⟨x, y⟩ := ends_on hab hcd hp
      rw [apart_none hab hcd x y] at hap
      cases hap
    exact ⟨fun _ _ => e, fun p hp => absurd hp (no p), fun p q hp => absurd hp (no p), fun _ h1 h2 => by rw [cross_near hab hcd h2 h1] at hap; cases hap⟩
  · by_cases hl : tn c d a = 0 ∧ tn c d b = 0
    · have e : meetM a b c d = lineM a b c d := by unfold meetM; rw [if_neg hap, if_pos hl]
      rw [e]
      obtain ⟨z1, z2⟩ := line_sym hab hcd hl.1 hl.2
      have on_all : ∀ p, p = a ∨ p = b ∨ p = c ∨ p = d → tn a b p = 0 ∧ tn c d p = 0 := by
        rintro p (rfl | rfl | rfl | rfl)
        · exact ⟨tn_a _ _, hl.1⟩
        · exact ⟨tn_b _ _, hl.2⟩
        · exact ⟨z1, tn_a _ _⟩
        · exact ⟨z2, tn_b _ _⟩
      have lowm : low a c = a ∨ low a c = b ∨ low a c = c ∨ low a c = d := by rcases low_case a c with ⟨e, _⟩ | ⟨e, _⟩ <;> simp [e]
      have highm : high b d = a ∨ high b d = b ∨ high b d = c ∨ high b d = d := by rcases high_case b d with ⟨e, _⟩ | ⟨e, _⟩ <;> simp [e]
      -- an end that is on both is one of the ends
      have isend : ∀ p, (p = a ∨ p = b ∨ p = c ∨ p = d) → on p a b = true → on p c d = true → p ∈ ends a b c d := by
        rintro p (rfl | rfl | rfl | rfl) x y <;> rw [mem_ends]
        · exact .inl ⟨rfl, y⟩
        · exact .inr (.inl ⟨rfl, y⟩)
        · exact .inr (.inr (.inl ⟨rfl, x⟩))
        · exact .inr (.inr (.inr ⟨rfl, x⟩))
      have range : ∀ p ∈ ends a b c d, lt p (low a c) = false ∧ lt (high b d) p = false := fun p hp => by
        have m : p = a ∨ p = b ∨ p = c ∨ p = d := by rcases mem_ends.mp hp with ⟨h, _⟩ | ⟨h, _⟩ | ⟨h, _⟩ | ⟨h, _⟩ <;> simp [h]
        obtain ⟨t1, t2⟩ := on_all p m
        exact (line_on t1 t2).mp (ends_on hab hcd hp)
      unfold lineM
      by_cases g : lt (high b d) (low a c) = true
      · rw [if_pos g]
        have no : ∀ p, p ∉ ends a b c d := fun p hp => by
          obtain ⟨x, y⟩ := range p hp
          rw [le_trans x y] at g
          cases g
        exact ⟨fun _ _ => rfl, fun p hp => absurd hp (no p), fun p q hp => absurd hp (no p), fun _ h1 _ => by rw [z1, Int.zero_mul] at h1; omega⟩
      · rw [if_neg g]
        have g : lt (high b d) (low a c) = false := by cases e : lt (high b d) (low a c) <;> simp_all
        have lowin : low a c ∈ ends a b c d := by
          obtain ⟨t1, t2⟩ := on_all _ lowm
          obtain ⟨x, y⟩ := (line_on t1 t2).mpr ⟨lt_irr _, g⟩
          exact isend _ lowm x y
        have highin : high b d ∈ ends a b c d := by
          obtain ⟨t1, t2⟩ := on_all _ highm
          obtain ⟨x, y⟩ := (line_on t1 t2).mpr ⟨g, lt_irr _⟩
          exact isend _ highm x y
        refine ⟨(fun h => by rw [h] at lowin; cases lowin), fun p hp all => ?_, fun p q hp hq n ord => ?_, (fun h => by rw [h] at lowin; cases lowin)⟩
        · rw [all _ lowin, all _ highin, if_pos rfl]
        · have e1 : p = low a c := lt_tri (range p hp).1 (ord _ lowin).1
          have e2 : q = high b d := lt_tri (ord _ highin).2 (range q hq).2
          rw [← e1, ← e2, if_neg n]
    · -- at most one common point
      have one : ∀ p ∈ ends a b c d, ∀ q ∈ ends a b c d, q = p := fun p hp q hq => by
        by_cases n : p = q
        · exact n.symm
        · obtain ⟨x1, x2⟩ := ends_on hab hcd hp
          obtain ⟨y1, y2⟩ := ends_on hab hcd hq
          exact absurd (two_points hab hcd (on_iff.mp x1).1 (on_iff.mp y1).1 (on_iff.mp x2).1 (on_iff.mp y2).1 n) hl
      have e : meetM a b c d = match endM a b c d with
          | some p => .touch p
          | none => if tn c d a * tn c d b < 0 ∧ tn a b c * tn a b d < 0 then cross a b (tn c d a) (tn c d b) else .none := by
        unfold meetM; rw [if_neg hap, if_neg hl]
      rw [e]
      cases em : endM a b c d with
      | some p =>
        have hp := endM_some em
        refine ⟨(fun h => by rw [h] at hp; cases hp), (fun q hq _ => by rw [one q hq p hp]), fun p' q' hp' hq' n => absurd (one p' hp' q' hq').symm n, (fun h => by rw [h] at hp; cases hp)⟩
      | none =>
        have h0 := endM_none.mp em
        refine ⟨fun _ h => ?_, (fun p hp => by rw [h0] at hp; cases hp), (fun p q hp => by rw [h0] at hp; cases hp), fun _ h1 h2 => ?_⟩
        · show (if _ then _ else _) = _
          rw [if_neg (by omega)]
        · show (if _ then _ else _) = _
          rw [if_pos ⟨h2, h1⟩]
/-! ### the other way round -/
theorem ends_sym {a b c d p : Pt} : p ∈ ends c d a b ↔ p ∈ ends a b c d := by
  rw [mem_ends, mem_ends]
  constructor <;> (rintro (h | h | h | h) <;> simp [h])
theorem low_unique {n1 d1 n2 d2 N1 D1 N2 D2 : Int} (L1 : LowOk n1 d1 N1 D1) (L2 : LowOk n2 d2 N2 D2) (z1 : d1 ≠ 0) (z2 : d2 ≠ 0) (h : n1 * d2 = n2 * d1) : N1 = N2 ∧ D1 = D2 := by
  obtain ⟨⟨g1, y1, e1, e2⟩, q1, o1⟩ := L1
  obtain ⟨⟨g2, y2, e3, e4⟩, q2, o2⟩ := L2
  have k : N1 * D2 = N2 * D1 := by
    have : g1 * g2 * (N1 * D2) = g1 * g2 * (N2 * D1) := by
      have a1 : g1 * g2 * (N1 * D2) = n1 * d2 := by rw [e1, e4]; grind
      have a2 : g1 * g2 * (N2 * D1) = n2 * d1 := by rw [e3, e2]; grind
      rw [a1, a2, h]
    exact Int.eq_of_mul_eq_mul_left (Int.mul_ne_zero y1 y2) this
  have kn : N1.natAbs * D2.natAbs = N2.natAbs * D1.natAbs := by
    have := congrArg Int.natAbs k
    rwa [Int.natAbs_mul, Int.natAbs_mul] at this
  have d12 : D1.natAbs ∣ D2.natAbs := by
    have : D1.natAbs ∣ N1.natAbs * D2.natAbs := ⟨N2.natAbs, by rw [kn, Nat.mul_comm]⟩
    exact Nat.Coprime.dvd_of_dvd_mul_left (Nat.Coprime.symm o1) this
  have d21 : D2.natAbs ∣ D1.natAbs := by
    have : D2.natAbs ∣ N2.natAbs * D1.natAbs := ⟨N1.natAbs, by rw [← kn, Nat.mul_comm]⟩
    exact Nat.Coprime.dvd_of_dvd_mul_left (Nat.Coprime.symm o2) this
  have e := Nat.dvd_antisymm d12 d21
  have eD : D1 = D2 := by omega
  refine ⟨?_, eD⟩
  rw [eD] at k
  exact Int.eq_of_mul_eq_mul_right (by omega) k
theorem cut_sym {a b c d : Pt} (hW : tn c d a - tn c d b ≠ 0) : cross c d (tn a b c) (tn a b d) = cross a b (tn c d a) (tn c d b) := by
  have f := tn_four a b c d
  have ex := tn_x a b c d
  have ey := tn_y a b c d
  have hW2 : tn a b c - tn a b d ≠ 0 := by omega
  have u1 := low_unique (low_ok (n := cutN c.1 d.1 (tn a b c) (tn a b d)) hW2) (low_ok (n := cutN a.1 b.1 (tn c d a) (tn c d b)) hW) hW2 hW (by
    have x1 : cutN c.1 d.1 (tn a b c) (tn a b d) = tn a b c * d.1 - tn a b d * c.1 := by unfold cutN; grind
    have x2 : cutN a.1 b.1 (tn c d a) (tn c d b) = tn c d a * b.1 - tn c d b * a.1 := by unfold cutN; grind
    have x3 : tn a b c - tn a b d = -(tn c d a - tn c d b) := by omega
    rw [x1, x2, x3, ex]; grind)
  have u2 := low_unique (low_ok (n := cutN c.2 d.2 (tn a b c) (tn a b d)) hW2) (low_ok (n := cutN a.2 b.2 (tn c d a) (tn c d b)) hW) hW2 hW (by
    have x1 : cutN c.2 d.2 (tn a b c) (tn a b d) = tn a b c * d.2 - tn a b d * c.2 := by unfold cutN; grind
    have x2 : cutN a.2 b.2 (tn c d a) (tn c d b) = tn c d a * b.2 - tn c d b * a.2 := by unfold cutN; grind
    have x3 : tn a b c - tn a b d = -(tn c d a - tn c d b) := by omega
    rw [x1, x2, x3, ey]; grind)
  unfold cross
  rw [u1.1, u1.2, u2.1, u2.2]
/-- the least and the greatest of some points -/
theorem least_of : ∀ (l : List Pt), l ≠ [] → ∃ p ∈ l, ∀ r ∈ l, lt r p = false
  | [], h => absurd rfl h
  | [p], _ => ⟨p, by simp, fun r hr => by rw [List.mem_singleton.mp hr]; exact lt_irr p⟩
  | p :: q :: l, _ => by
    obtain ⟨m, hm, all⟩ := least_of (q :: l) (by simp)
    by_cases h : lt p m = true
    · refine ⟨p, by simp, fun r hr => ?_⟩
      rcases List.mem_cons.mp hr with rfl | hr
      · exact lt_irr r
      · exact le_trans (lt_le h) (all r hr)
    · refine ⟨m, List.mem_cons_of_mem _ hm, fun r hr => ?_⟩
      rcases List.mem_cons.mp hr with rfl | hr
      · cases e : lt r m <;> simp_all
      · exact all r hr
theorem greatest_of : ∀ (l : List Pt), l ≠ [] → ∃ p ∈ l, ∀ r ∈ l, lt p r = false
  | [], h => absurd rfl h
  | [p], _ => ⟨p, by simp, fun r hr => by rw [List.mem_singleton.mp hr]; exact lt_irr p⟩
  | p :: q :: l, _ => by
    obtain ⟨m, hm, all⟩ := greatest_of (q :: l) (by simp)
    by_cases h : lt m p = true
    · refine ⟨p, by simp, fun r hr => ?_⟩
      rcases List.mem_cons.mp hr with rfl | hr
      · exact lt_irr r
      · exact le_trans (all r hr) (lt_le h)
    · refine ⟨m, List.mem_cons_of_mem _ hm, fun r hr => ?_⟩
      rcases List.mem_cons.mp hr with rfl | hr
      · cases e : lt m r <;> simp_all
      · exact all r hr
theorem meet_sym {a b c d : Pt} (hab : lt a b = true) (hcd : lt c d = true) : meetM c d a b = meetM a b c d := by
  have R := meet_right hab hcd
  have S := meet_right hcd hab
  by_cases h0 : ends a b c d = []
  · have h1 : ends c d a b = [] := List.eq_nil_iff_forall_not_mem.mpr fun p hp => by
      have := ends_sym.mp hp
      rw [h0] at this
      cases this
    by_cases k : 0 ≤ tn a b c * tn a b d ∨ 0 ≤ tn c d a * tn c d b
    · rw [R.none_ h0 k, S.none_ h1 k.symm]
    · have k1 : tn a b c * tn a b d < 0 := by omega
      have k2 : tn c d a * tn c d b < 0 := by omega
      rw [R.cross_ h0 k1 k2, S.cross_ h1 k2 k1]
      have n := neg_signs k2
      exact cut_sym (by omega)
  · obtain ⟨p, hp, ap⟩ := least_of _ h0
    obtain ⟨q, hq, aq⟩ := greatest_of _ h0
    by_cases e : p = q
    · subst e
      have one : ∀ r ∈ ends a b c d, r = p := fun r hr => lt_tri (ap r hr) (aq r hr)
      rw [R.touch_ p hp one, S.touch_ p (ends_sym.mpr hp) fun r hr => one r (ends_sym.mp hr)]
    · rw [R.over_ p q hp hq e fun r hr => ⟨ap r hr, aq r hr⟩, S.over_ p q (ends_sym.mpr hp) (ends_sym.mpr hq) e fun r hr => ⟨ap r (ends_sym.mp hr), aq r (ends_sym.mp hr)⟩]
/-! ### the crossing lies on both lines -/
/-- (v - u) * (y - w) in lowest terms, for y = N / D -/
theorem on_line_eq {N D M E vx vy ax ay : Int} (hD : 0 < D) (hE : 0 < E) (h : vx * (M - ay * E) * D = vy * (N - ax * D) * E) (n1 d1 n2 d2 : Int)
    (e1 : n1 * E = vx * (M - ay * E) * d1) (e2 : n2 * D = vy * (N - ax * D) * d2) (z1 : d1 ≠ 0) (z2 : d2 ≠ 0) : n1 * d2 = n2 * d1 := by
  have : D * E * (n1 * d2) = D * E * (n2 * d1) := by
    have a1 : D * E * (n1 * d2) = D * d2 * (n1 * E) := by grind
    have a2 : D * E * (n2 * d1) = E * d1 * (n2 * D) := by grind
    rw [a1, a2, e1, e2]
    have a3 : D * d2 * (vx * (M - ay * E) * d1) = d1 * d2 * (vx * (M - ay * E) * D) := by grind
    have a4 : E * d1 * (vy * (N - ax * D) * d2) = d1 * d2 * (vy * (N - ax * D) * E) := by grind
    rw [a3, a4, h]
  exact Int.eq_of_mul_eq_mul_left (Int.mul_ne_zero (by omega) (by omega)) this
end My
namespace My
open PySem L2
/-! ## meetings at addresses -/
abbrev PtAt (K : PySem.W.Frag) (H : Hp) (p : Addr) (P : Int × Int) : Prop := SqT K H p [.int P.1, .int P.2]
def MtAt (K : PySem.W.Frag) (H : Hp) (v : V) : Mt → Prop
  | .none => ∃ p, v = .ref p ∧ SqT K H p [.str "none"]
  | .touch P => ∃ p q, v = .ref p ∧ SqT K H p [.str "touch", .ref q] ∧ PtAt K H q P
  | .over P R => ∃ p q r, v = .ref p ∧ SqT K H p [.str "overlap", .ref q, .ref r] ∧ PtAt K H q P ∧ PtAt K H r R
  | .cross x y => ∃ p q r, v = .ref p ∧ SqT K H p [.str "cross", .ref q, .ref r] ∧ PtAt K H q x ∧ PtAt K H r y
theorem MtAt.same {K : PySem.W.Frag} {H H' : Hp} (e : Same H H') {v : V} : ∀ {m : Mt}, MtAt K H v m → MtAt K H' v m
  | .none, ⟨p, h, a⟩ => ⟨p, h, tSame e a⟩
  | .touch _, ⟨p, q, h, a, b⟩ => ⟨p, q, h, tSame e a, tSame e b⟩
  | .over _ _, ⟨p, q, r, h, a, b, c⟩ => ⟨p, q, r, h, tSame e a, tSame e b, tSame e c⟩
  | .cross _ _, ⟨p, q, r, h, a, b, c⟩ => ⟨p, q, r, h, tSame e a, tSame e b, tSame e c⟩
def CeAt (K : PySem.W.Frag) (H : Hp) (v : V) : Option Pt → Prop
  | some P => ∃ q, v = .ref q ∧ PtAt K H q P
  | none => v = .non
def sgn (n : Int) : Int := (if decide (0 < n) = true then 1 else 0) - (if decide (n < 0) = true then 1 else 0)
theorem sgn_ge (x y : Int) : decide (0 ≤ sgn x * sgn y) = decide (0 ≤ x * y) := by
  unfold sgn
  rcases Int.lt_trichotomy x 0 with a | a | a <;> rcases Int.lt_trichotomy y 0 with b | b | b
  · have := Int.mul_pos_of_neg_of_neg a b
    simp [a, b, Int.not_lt.mpr (Int.le_of_lt a), Int.not_lt.mpr (Int.le_of_lt b), Int.le_of_lt this]
  · subst b; simp
  · have := Int.mul_neg_of_neg_of_pos a b
    simp [a, b, Int.not_lt.mpr (Int.le_of_lt a), Int.not_lt.mpr (Int.le_of_lt b), Int.not_le.mpr this]
  · subst a; simp
  · subst a; simp
  · subst a; simp
  · have := Int.mul_neg_of_pos_of_neg a b
    simp [a, b, Int.not_lt.mpr (Int.le_of_lt a), Int.not_lt.mpr (Int.le_of_lt b), Int.not_le.mpr this]
  · subst b; simp
  · have := Int.mul_pos a b
    simp [a, b, Int.not_lt.mpr (Int.le_of_lt a), Int.not_lt.mpr (Int.le_of_lt b), Int.le_of_lt this]
def apartS (a b c d : Pt) : Bool := decide (0 ≤ sgn (tn a b c) * sgn (tn a b d)) || decide (0 ≤ sgn (tn c d a) * sgn (tn c d b))
theorem turn_le {ax ay bx dy cx cy : Int} (oa : On ax ay) (ob : On bx dy) (oc : On cx cy) : (turnI ax ay bx dy cx cy).natAbs ≤ 2 ^ 23 :=
  sub_le (x := 22) (mul_le (x := 11) (y := 11) (ob.d oa).1 (oc.d oa).2) (mul_le (x := 11) (y := 11) (ob.d oa).2 (oc.d oa).1)
theorem ends_pre (a b c d : Pt) : ends a b c d = [a, b].filter (fun p => on p c d) ++ [c, d].filter (fun p => on p a b) := by
  unfold ends
  by_cases h1 : on a c d = true <;> by_cases h2 : on b c d = true <;> by_cases h3 : on c a b = true <;> by_cases h4 : on d a b = true <;> simp [List.filter, h1, h2, h3, h4]
theorem take_filter {α : Type} {l : List α} {f : α → Bool} {i : Nat} {x : α} (h : l[i]? = some x) : (l.take (i + 1)).filter f = (l.take i).filter f ++ (if f x = true then [x] else []) := by
  rw [List.take_add_one, h, List.filter_append]
  congr 1
  by_cases e : f x = true
  · simp [e]
  · simp [e]
end My
namespace My
open PySem L2
theorem sgn_b (x : Int) : -(2 ^ 64) < sgn x ∧ sgn x < 2 ^ 64 := by
  unfold sgn
  split <;> split <;> omega
theorem int0 {x : Int} (h : V.int x = V.int 0) : x = 0 := by injection h
theorem low_line {N E ay g N1 D1 v : Int} (e1 : N * 1 + (0 - ay) * E = g * N1) (e2 : E * 1 = g * D1) : v * N1 * E = v * (N - ay * E) * (1 * D1) := by
  have h1 : N - ay * E = g * N1 := by grind
  have h2 : E = g * D1 := by grind
  rw [h1, h2]
  grind
end My
namespace My
open PySem L2
theorem Same.put {H H' : Hp} {D : Addr} {o : HO} (hD : H D = none) (e : Same H H') : Same H (upd H' D o) := fun b u hb => by
  rw [upd_ne (ne_of_none hb hD)]; exact e b u hb
theorem But.put {s : Addr} {H H' : Hp} {D : Addr} {o : HO} (hD : H D = none) (e : But s H H') : But s H (upd H' D o) := fun b u n hb => by
  rw [upd_ne (ne_of_none hb hD)]; exact e b u n hb
theorem MtAt.dq {K : PySem.W.Frag} {H : Hp} {u v : V} : ∀ {m : Mt}, MtAt K H u m → MtAt K H v m → Dq K H 4 u v
  | .none, ⟨_, h, a⟩, ⟨_, h', a'⟩ => by
    subst h h'
    exact .tup a a' rfl (Nat.le_of_ble_eq_true rfl) fun i x y hx hy => by
      have : i < 1 := (List.getElem?_eq_some_iff.mp hx).1
      obtain rfl : i = 0 := by omega
      cases hx; cases hy; exact .str _ _
  | .touch _, ⟨_, _, h, a, b⟩, ⟨_, _, h', a', b'⟩ => by
    subst h h'
    exact .tup a a' rfl (Nat.le_of_ble_eq_true rfl) (two_get (.str _ _) (.tup b b' rfl (Nat.le_of_ble_eq_true rfl) (two_get (.int 1 _) (.int 1 _))))
  | .over _ _, ⟨_, _, _, h, a, b, c⟩, ⟨_, _, _, h', a', b', c'⟩ => by
    subst h h'
    exact .tup a a' rfl (Nat.le_of_ble_eq_true rfl) (three_get (.str _ _) (.tup b b' rfl (Nat.le_of_ble_eq_true rfl) (two_get (.int 1 _) (.int 1 _))) (.tup c c' rfl (Nat.le_of_ble_eq_true rfl) (two_get (.int 1 _) (.int 1 _))))
  | .cross _ _, ⟨_, _, _, h, a, b, c⟩, ⟨_, _, _, h', a', b', c'⟩ => by
    subst h h'
    exact .tup a a' rfl (Nat.le_of_ble_eq_true rfl) (three_get (.str _ _) (.tup b b' rfl (Nat.le_of_ble_eq_true rfl) (two_get (.int 1 _) (.int 1 _))) (.tup c c' rfl (Nat.le_of_ble_eq_true rfl) (two_get (.int 1 _) (.int 1 _))))
/-- min and max of two points make a segment -/
theorem seg_mm {K : PySem.W.Frag} {H : Hp} {t u v : Addr} {ux uy vx vy : Int} (ht : SqT K H t [.ref (if ltP vx vy ux uy = true then v else u), .ref (if ltP ux uy vx vy = true then v else u)])
    (hu : SqT K H u [.int ux, .int uy]) (hv : SqT K H v [.int vx, .int vy]) (ou : On ux uy) (ov : On vx vy) (ne : ¬ (ux = vx ∧ uy = vy)) : ∃ (a c : Addr) (ax ay bx dy : Int), SegAt K H t a c ax ay bx dy := by
  by_cases l : ltP vx vy ux uy = true
  · have l2 : ltP ux uy vx vy = false := by
      have := of_decide_eq_true l
      exact decide_eq_false (by omega)
    rw [if_pos l, l2, if_neg Bool.false_ne_true] at ht
    exact ⟨_, _, _, _, _, _, ht, hv, hu, ov, ou, l⟩
  · have l2 : ltP ux uy vx vy = true := decide_eq_true (by
      have : ¬ _ := fun z => l (decide_eq_true z)
      omega)
    rw [if_neg l, if_pos l2] at ht
    exact ⟨_, _, _, _, _, _, ht, hu, hv, ou, ov, l2⟩
/-- lowest terms are their own -/
theorem low_self {N D : Int} (h : 0 < D) (o : Nat.gcd N.natAbs D.natAbs = 1) : lowN N D = N ∧ lowD N D = D := by
  have g : sgcd N D = 1 := by unfold sgcd; rw [if_neg (by omega), o]; rfl
  unfold lowN lowD
  rw [g]
  exact ⟨by rw [Int.fdiv_one], by rw [Int.fdiv_one]⟩
/-- the point where two lines cross lies on the first -/
theorem cross_on {ax ay bx dy be af N D M E : Int} (L1 : LowOk (cutN ax bx be af) (be - af) N D) (L2 : LowOk (cutN ay dy be af) (be - af) M E) : (bx - ax) * (M - ay * E) * D = (dy - ay) * (N - ax * D) * E := by
  obtain ⟨⟨g1, y1, e1, e2⟩, -, -⟩ := L1
  obtain ⟨⟨g2, y2, e3, e4⟩, -, -⟩ := L2
  have h1 : g1 * (N - ax * D) = be * (bx - ax) := by
    have : g1 * (N - ax * D) = g1 * N - ax * (g1 * D) := by grind
    rw [this, ← e1, ← e2]; unfold cutN; grind
  have h2 : g2 * (M - ay * E) = be * (dy - ay) := by
    have : g2 * (M - ay * E) = g2 * M - ay * (g2 * E) := by grind
    rw [this, ← e3, ← e4]; unfold cutN; grind
  have h3 : g1 * D = g2 * E := by rw [← e2, ← e4]
  have : g1 * g2 * ((bx - ax) * (M - ay * E) * D) = g1 * g2 * ((dy - ay) * (N - ax * D) * E) := by
    have a1 : g1 * g2 * ((bx - ax) * (M - ay * E) * D) = (bx - ax) * (g2 * (M - ay * E)) * (g1 * D) := by grind
    have a2 : g1 * g2 * ((dy - ay) * (N - ax * D) * E) = (dy - ay) * (g1 * (N - ax * D)) * (g2 * E) := by grind
    rw [a1, a2, h1, h2, h3]
    grind
  exact Int.eq_of_mul_eq_mul_left (Int.mul_ne_zero y1 y2) this
/-- the last of some in their order -/
theorem last_ge {l : List Pt} {r : Pt → Pt → Prop} (h : l.Pairwise r) (hr : ∀ x, r x x) {i j : Nat} {x y : Pt} (hij : i ≤ j) (hx : l[i]? = some x) (hy : l[j]? = some y) : r x y := by
  rcases Nat.lt_or_eq_of_le hij with q | q
  · obtain ⟨hi, ei⟩ := List.getElem?_eq_some_iff.mp hx
    obtain ⟨hj, ej⟩ := List.getElem?_eq_some_iff.mp hy
    have := List.pairwise_iff_getElem.mp h i j hi hj q
    rw [ei, ej] at this
    exact this
  · subst q
    rw [hx] at hy
    cases hy
    exact hr x
end My
namespace My
open PySem L2
theorem tyL {K : PySem.W.Frag} {H : Hp} {p : Addr} {xs : List V} (h : H p = some (.lst xs)) : tyV K "list" (.ref p) H := .inl ⟨rfl, xs, SqL.of h⟩
theorem row_on {n m z : Int} (h1 : 0 ≤ n) (h2 : n < 3) (h3 : 0 ≤ m) (h4 : m < 5) (h5 : 0 ≤ z ∧ z ≤ 8) : On ((1 + n) * z) ((m - 2) * z) := by
  rcases (show n = 0 ∨ n = 1 ∨ n = 2 by omega) with rfl | rfl | rfl <;> rcases (show m = 0 ∨ m = 1 ∨ m = 2 ∨ m = 3 ∨ m = 4 by omega) with rfl | rfl | rfl | rfl | rfl <;> unfold On <;> omega
theorem end_at {K : PySem.W.Frag} {H : Hp} {g a c : Addr} {ax ay bx dy n : Int} (h : SegAt K H g a c ax ay bx dy) (h0 : 0 ≤ n) (h1 : n < 2) : ∃ (o : Addr) (x y : Int), atI [V.ref a, V.ref c] n = some (.ref o) ∧ SqT K H o [.int x, .int y] ∧ On x y := by
  rcases (show n = 0 ∨ n = 1 by omega) with rfl | rfl
  · exact ⟨_, _, _, at0, h.a, h.oa⟩
  · exact ⟨_, _, _, at1, h.c, h.oc⟩
end My
namespace My
open PySem L2
theorem four_at {ps : List Zp} {z : Int} (hl : ps.length = 4) (h0 : 0 ≤ z) (h1 : z < 4) : ∃ y : Zp, atI (refs ps) z = some (.ref y.1) ∧ y ∈ ps := by
  obtain ⟨a, b, c, d, rfl⟩ := four_of hl
  rcases (show z = 0 ∨ z = 1 ∨ z = 2 ∨ z = 3 by omega) with rfl | rfl | rfl | rfl
  · exact ⟨a, at0, by simp⟩
  · exact ⟨b, at1, by simp⟩
  · exact ⟨c, at2, by simp⟩
  · exact ⟨d, at3, by simp⟩
theorem at_m1 {α : Type} {a : α} {l : List α} {x : α} (h : (a :: l)[l.length]? = some x) : atI (a :: l) (-1) = some x := by
  unfold atI ixN
  rw [if_neg (by decide)]
  have e : (-(((a :: l).length : Nat) : Int) ≤ -1) := by rw [List.length_cons]; omega
  rw [if_pos e]
  have e2 : ((-1 : Int) + (((a :: l).length : Nat) : Int)).toNat = l.length := by rw [List.length_cons]; omega
  simp only [Option.bind_some]
  rw [e2]; exact h
theorem apart_yes {a b c d : Pt} (h : apartS a b c d = true) : 0 ≤ tn a b c * tn a b d ∨ 0 ≤ tn c d a * tn c d b := by
  unfold apartS at h
  rw [sgn_ge, sgn_ge, Bool.or_eq_true, decide_eq_true_eq, decide_eq_true_eq] at h
  exact h
theorem apart_not {a b c d : Pt} (h : apartS a b c d = false) : tn a b c * tn a b d < 0 ∧ tn c d a * tn c d b < 0 := by
  unfold apartS at h
  rw [sgn_ge, sgn_ge, Bool.or_eq_false_iff, decide_eq_false_iff_not, decide_eq_false_iff_not] at h
  omega
/-- the points that both have, in their order: the first and the last -/
theorem first_last {l : List Pt} {E : List Pt} {x y : Pt} {n : Nat} (perm : l.Perm E) (srt : l.Pairwise fun u v => lt v u = false) (h0 : l[0]? = some x) (h1 : l[n]? = some y) (hn : l.length = n + 1) :
    x ∈ E ∧ y ∈ E ∧ ∀ r ∈ E, lt r x = false ∧ lt y r = false := by
  refine ⟨perm.mem_iff.mp (List.mem_of_getElem? h0), perm.mem_iff.mp (List.mem_of_getElem? h1), fun r hr => ?_⟩
  obtain ⟨j, hj⟩ := List.mem_iff_getElem?.mp (perm.mem_iff.mpr hr)
  have hi : j < l.length := (List.getElem?_eq_some_iff.mp hj).1
  exact ⟨last_ge srt (fun x => lt_irr x) (Nat.zero_le j) h0 hj, last_ge srt (fun x => lt_irr x) (show j ≤ n by omega) hj h1⟩
end My

namespace My
open PySem L2
/-! the steps of a reading -/
local macro_rules | `(tactic| walk_at "t") => `(tactic| first
  | assumption
  | exact tHere
  | exact lHere
  | (refine tOver (by assumption) ?_; walk_at "t")
  | (refine lOver (by assumption) ?_; walk_at "t")
  | (refine tSame (by assumption) ?_; walk_at "t")
  | (refine tBut (by assumption) (by assumption) ?_; walk_at "t"))
local macro_rules | `(tactic| walk_at "ix") => `(tactic| first | exact at0 | exact at1 | exact at2 | exact at3 | rfl)
local macro_rules | `(tactic| walk_at "r1") => `(tactic| first
  | refine ⟨_, rfl, ?_⟩
  | refine ⟨_, _, rfl, rfl, ?_⟩
  | refine ⟨rfl, ?_⟩
  | refine ⟨_, _, _, _, rfl, rfl, (by walk_at "t"), (by walk_at "ix"), ?_⟩
  | refine ⟨small rfl, ?_⟩)
local macro_rules | `(tactic| walk_at "r") => `(tactic| repeat walk_at "r1")

def top (i : Nat) : Stmt := PySem.Challenge.pw_trueatlas_k05_meetings.main.body.getD i (.Pass ⟨0, 0, 0, 0⟩)
abbrev s_is_whole : Stmt := (top 5)
abbrev N_is_whole : List Str := ["value"]
theorem sc_is_whole : FnScope N_is_whole ["value"] (defScope s_is_whole) := ⟨rfl, rfl, rfl, by decide +kernel, rfl, by decide +kernel, by decide +kernel⟩

abbrev s_is_pair : Stmt := (top 6)
abbrev N_is_pair : List Str := ["value"]
theorem sc_is_pair : FnScope N_is_pair ["value"] (defScope s_is_pair) := ⟨rfl, rfl, rfl, by decide +kernel, rfl, by decide +kernel, by decide +kernel⟩

abbrev s_need : Stmt := (top 7)
abbrev N_need : List Str := ["holds", "name"]
theorem sc_need : FnScope N_need ["holds", "name"] (defScope s_need) := ⟨rfl, rfl, rfl, by decide +kernel, rfl, by decide +kernel, by decide +kernel⟩

abbrev s_lowest : Stmt := (top 9)
abbrev N_lowest : List Str := ["n", "d", "common"]
theorem sc_lowest : FnScope N_lowest ["n", "d"] (defScope s_lowest) := ⟨rfl, rfl, rfl, by decide +kernel, rfl, by decide +kernel, by decide +kernel⟩

abbrev s_is_coordinate : Stmt := (top 13)
abbrev N_is_coordinate : List Str := ["value"]
theorem sc_is_coordinate : FnScope N_is_coordinate ["value"] (defScope s_is_coordinate) := ⟨rfl, rfl, rfl, by decide +kernel, rfl, by decide +kernel, by decide +kernel⟩

abbrev s_is_point : Stmt := (top 14)
abbrev N_is_point : List Str := ["value"]
theorem sc_is_point : FnScope N_is_point ["value"] (defScope s_is_point) := ⟨rfl, rfl, rfl, by decide +kernel, rfl, by decide +kernel, by decide +kernel⟩

abbrev s_is_segment : Stmt := (top 15)
abbrev N_is_segment : List Str := ["value"]
theorem sc_is_segment : FnScope N_is_segment ["value"] (defScope s_is_segment) := ⟨rfl, rfl, rfl, by decide +kernel, rfl, by decide +kernel, by decide +kernel⟩

abbrev s_turn_of : Stmt := (top 16)
abbrev N_turn_of : List Str := ["a", "b", "c"]
theorem sc_turn_of : FnScope N_turn_of ["a", "b", "c"] (defScope s_turn_of) := ⟨rfl, rfl, rfl, by decide +kernel, rfl, by decide +kernel, by decide +kernel⟩

abbrev s_is_on : Stmt := (top 17)
abbrev N_is_on : List Str := ["p", "segment", "a", "b"]
theorem sc_is_on : FnScope N_is_on ["p", "segment"] (defScope s_is_on) := ⟨rfl, rfl, rfl, by decide +kernel, rfl, by decide +kernel, by decide +kernel⟩

abbrev s_are_apart : Stmt := (top 19)
abbrev N_are_apart : List Str := ["first", "second", "a", "b", "c", "d"]
theorem sc_are_apart : FnScope N_are_apart ["first", "second"] (defScope s_are_apart) := ⟨rfl, rfl, rfl, by decide +kernel, rfl, by decide +kernel, by decide +kernel⟩

abbrev s_meeting_on_line : Stmt := (top 20)
abbrev N_meeting_on_line : List Str := ["first", "second", "low", "high"]
theorem sc_meeting_on_line : FnScope N_meeting_on_line ["first", "second"] (defScope s_meeting_on_line) := ⟨rfl, rfl, rfl, by decide +kernel, rfl, by decide +kernel, by decide +kernel⟩

abbrev s_common_end : Stmt := (top 21)
abbrev N_common_end : List Str := ["first", "second", "p"]
theorem sc_common_end : FnScope N_common_end ["first", "second"] (defScope s_common_end) := ⟨rfl, rfl, rfl, by decide +kernel, rfl, by decide +kernel, by decide +kernel⟩

abbrev s_cut_point : Stmt := (top 22)
abbrev N_cut_point : List Str := ["first", "before", "after", "a", "b", "whole"]
theorem sc_cut_point : FnScope N_cut_point ["first", "before", "after"] (defScope s_cut_point) := ⟨rfl, rfl, rfl, by decide +kernel, rfl, by decide +kernel, by decide +kernel⟩

abbrev s_meeting_of : Stmt := (top 23)
abbrev N_meeting_of : List Str := ["first", "second", "a", "b", "c", "d", "before", "after", "p", "x", "y"]
theorem sc_meeting_of : FnScope N_meeting_of ["first", "second"] (defScope s_meeting_of) := ⟨rfl, rfl, rfl, by decide +kernel, rfl, by decide +kernel, by decide +kernel⟩

abbrev s_meeting : Stmt := (top 24)
abbrev N_meeting : List Str := ["first", "second"]
theorem sc_meeting : FnScope N_meeting ["first", "second"] (defScope s_meeting) := ⟨rfl, rfl, rfl, by decide +kernel, rfl, by decide +kernel, by decide +kernel⟩

abbrev s__law_stream : Stmt := (top 26)
abbrev N__law_stream : List Str := ["script"]
theorem sc__law_stream : FnScope N__law_stream ["script"] (defScope s__law_stream) := ⟨rfl, rfl, rfl, by decide +kernel, rfl, by decide +kernel, by decide +kernel⟩

abbrev s__law_next : Stmt := (top 27)
abbrev N__law_next : List Str := ["stream", "many", "k", "cell", "digit"]
theorem sc__law_next : FnScope N__law_next ["stream", "many"] (defScope s__law_next) := ⟨rfl, rfl, rfl, by decide +kernel, rfl, by decide +kernel, by decide +kernel⟩

abbrev s__law_is_integer : Stmt := (top 28)
abbrev N__law_is_integer : List Str := ["actual"]
theorem sc__law_is_integer : FnScope N__law_is_integer ["actual"] (defScope s__law_is_integer) := ⟨rfl, rfl, rfl, by decide +kernel, rfl, by decide +kernel, by decide +kernel⟩

abbrev s__law_gcd : Stmt := (top 29)
abbrev N__law_gcd : List Str := ["a", "b", "k"]
theorem sc__law_gcd : FnScope N__law_gcd ["a", "b"] (defScope s__law_gcd) := ⟨rfl, rfl, rfl, by decide +kernel, rfl, by decide +kernel, by decide +kernel⟩

abbrev s__law_low : Stmt := (top 30)
abbrev N__law_low : List Str := ["n", "d", "shared"]
theorem sc__law_low : FnScope N__law_low ["n", "d"] (defScope s__law_low) := ⟨rfl, rfl, rfl, by decide +kernel, rfl, by decide +kernel, by decide +kernel⟩

abbrev s__law_plus : Stmt := (top 31)
abbrev N__law_plus : List Str := ["a", "b"]
theorem sc__law_plus : FnScope N__law_plus ["a", "b"] (defScope s__law_plus) := ⟨rfl, rfl, rfl, by decide +kernel, rfl, by decide +kernel, by decide +kernel⟩

abbrev s__law_times : Stmt := (top 32)
abbrev N__law_times : List Str := ["a", "b"]
theorem sc__law_times : FnScope N__law_times ["a", "b"] (defScope s__law_times) := ⟨rfl, rfl, rfl, by decide +kernel, rfl, by decide +kernel, by decide +kernel⟩

abbrev s__law_equal : Stmt := (top 35)
abbrev N__law_equal : List Str := ["actual", "due", "at"]
theorem sc__law_equal : FnScope N__law_equal ["actual", "due"] (defScope s__law_equal) := ⟨rfl, rfl, rfl, by decide +kernel, rfl, by decide +kernel, by decide +kernel⟩

abbrev s__law_turn : Stmt := (top 36)
abbrev N__law_turn : List Str := ["a", "b", "c"]
theorem sc__law_turn : FnScope N__law_turn ["a", "b", "c"] (defScope s__law_turn) := ⟨rfl, rfl, rfl, by decide +kernel, rfl, by decide +kernel, by decide +kernel⟩

abbrev s__law_sign : Stmt := (top 37)
abbrev N__law_sign : List Str := ["n"]
theorem sc__law_sign : FnScope N__law_sign ["n"] (defScope s__law_sign) := ⟨rfl, rfl, rfl, by decide +kernel, rfl, by decide +kernel, by decide +kernel⟩

abbrev s__law_between : Stmt := (top 38)
abbrev N__law_between : List Str := ["p", "a", "b"]
theorem sc__law_between : FnScope N__law_between ["p", "a", "b"] (defScope s__law_between) := ⟨rfl, rfl, rfl, by decide +kernel, rfl, by decide +kernel, by decide +kernel⟩

abbrev s__law_point : Stmt := (top 39)
abbrev N__law_point : List Str := ["stream", "far"]
theorem sc__law_point : FnScope N__law_point ["stream", "far"] (defScope s__law_point) := ⟨rfl, rfl, rfl, by decide +kernel, rfl, by decide +kernel, by decide +kernel⟩

abbrev s__law_far : Stmt := (top 40)
abbrev N__law_far : List Str := ["stream"]
theorem sc__law_far : FnScope N__law_far ["stream"] (defScope s__law_far) := ⟨rfl, rfl, rfl, by decide +kernel, rfl, by decide +kernel, by decide +kernel⟩

abbrev s__law_segment : Stmt := (top 41)
abbrev N__law_segment : List Str := ["stream", "far", "a", "b"]
theorem sc__law_segment : FnScope N__law_segment ["stream", "far"] (defScope s__law_segment) := ⟨rfl, rfl, rfl, by decide +kernel, rfl, by decide +kernel, by decide +kernel⟩

abbrev s__law_ends : Stmt := (top 42)
abbrev N__law_ends : List Str := ["s", "t", "found", "p"]
theorem sc__law_ends : FnScope N__law_ends ["s", "t"] (defScope s__law_ends) := ⟨rfl, rfl, rfl, by decide +kernel, rfl, by decide +kernel, by decide +kernel⟩

abbrev s__law_apart : Stmt := (top 43)
abbrev N__law_apart : List Str := ["s", "t", "one", "other"]
theorem sc__law_apart : FnScope N__law_apart ["s", "t"] (defScope s__law_apart) := ⟨rfl, rfl, rfl, by decide +kernel, rfl, by decide +kernel, by decide +kernel⟩

abbrev s__law_is_on_line : Stmt := (top 44)
abbrev N__law_is_on_line : List Str := ["x", "y", "s", "first", "second"]
theorem sc__law_is_on_line : FnScope N__law_is_on_line ["x", "y", "s"] (defScope s__law_is_on_line) := ⟨rfl, rfl, rfl, by decide +kernel, rfl, by decide +kernel, by decide +kernel⟩

abbrev s__law_pair : Stmt := (top 45)
abbrev N__law_pair : List Str := ["stream", "far", "s", "t", "pick", "dx", "dy", "row", "places", "order", "a", "b", "c", "d", "other", "end", "k"]
theorem sc__law_pair : FnScope N__law_pair ["stream"] (defScope s__law_pair) := ⟨rfl, rfl, rfl, by decide +kernel, rfl, by decide +kernel, by decide +kernel⟩

abbrev s_law : Stmt := (top 46)
abbrev N_law : List Str := ["script", "stream", "s", "t", "ends", "told", "part", "one"]
theorem sc_law : FnScope N_law ["script"] (defScope s_law) := ⟨rfl, rfl, rfl, by decide +kernel, rfl, by decide +kernel, by decide +kernel⟩

structure Txt (K : PySem.W.Frag) (mg : Str → Option Value) where
  a_is_whole : Addr
  d_is_whole : FuncData
  F_is_whole : Fun K "is_whole" "is_whole" s_is_whole a_is_whole d_is_whole
  m_is_whole : mg "is_whole" = some (.ref a_is_whole)
  b_is_whole : Binds K d_is_whole ["value"] []
  a_is_pair : Addr
  d_is_pair : FuncData
  F_is_pair : Fun K "is_pair" "is_pair" s_is_pair a_is_pair d_is_pair
  m_is_pair : mg "is_pair" = some (.ref a_is_pair)
  b_is_pair : Binds K d_is_pair ["value"] []
  a_need : Addr
  d_need : FuncData
  F_need : Fun K "need" "need" s_need a_need d_need
  m_need : mg "need" = some (.ref a_need)
  b_need : Binds K d_need ["holds", "name"] []
  a_lowest : Addr
  d_lowest : FuncData
  F_lowest : Fun K "lowest" "lowest" s_lowest a_lowest d_lowest
  m_lowest : mg "lowest" = some (.ref a_lowest)
  b_lowest : Binds K d_lowest ["n", "d"] []
  a_is_coordinate : Addr
  d_is_coordinate : FuncData
  F_is_coordinate : Fun K "is_coordinate" "is_coordinate" s_is_coordinate a_is_coordinate d_is_coordinate
  m_is_coordinate : mg "is_coordinate" = some (.ref a_is_coordinate)
  b_is_coordinate : Binds K d_is_coordinate ["value"] []
  a_is_point : Addr
  d_is_point : FuncData
  F_is_point : Fun K "is_point" "is_point" s_is_point a_is_point d_is_point
  m_is_point : mg "is_point" = some (.ref a_is_point)
  b_is_point : Binds K d_is_point ["value"] []
  a_is_segment : Addr
  d_is_segment : FuncData
  F_is_segment : Fun K "is_segment" "is_segment" s_is_segment a_is_segment d_is_segment
  m_is_segment : mg "is_segment" = some (.ref a_is_segment)
  b_is_segment : Binds K d_is_segment ["value"] []
  a_turn_of : Addr
  d_turn_of : FuncData
  F_turn_of : Fun K "turn_of" "turn_of" s_turn_of a_turn_of d_turn_of
  m_turn_of : mg "turn_of" = some (.ref a_turn_of)
  b_turn_of : Binds K d_turn_of ["a", "b", "c"] []
  a_is_on : Addr
  d_is_on : FuncData
  F_is_on : Fun K "is_on" "is_on" s_is_on a_is_on d_is_on
  m_is_on : mg "is_on" = some (.ref a_is_on)
  b_is_on : Binds K d_is_on ["p", "segment"] []
  a_are_apart : Addr
  d_are_apart : FuncData
  F_are_apart : Fun K "are_apart" "are_apart" s_are_apart a_are_apart d_are_apart
  m_are_apart : mg "are_apart" = some (.ref a_are_apart)
  b_are_apart : Binds K d_are_apart ["first", "second"] []
  a_meeting_on_line : Addr
  d_meeting_on_line : FuncData
  F_meeting_on_line : Fun K "meeting_on_line" "meeting_on_line" s_meeting_on_line a_meeting_on_line d_meeting_on_line
  m_meeting_on_line : mg "meeting_on_line" = some (.ref a_meeting_on_line)
  b_meeting_on_line : Binds K d_meeting_on_line ["first", "second"] []
  a_common_end : Addr
  d_common_end : FuncData
  F_common_end : Fun K "common_end" "common_end" s_common_end a_common_end d_common_end
  m_common_end : mg "common_end" = some (.ref a_common_end)
  b_common_end : Binds K d_common_end ["first", "second"] []
  a_cut_point : Addr
  d_cut_point : FuncData
  F_cut_point : Fun K "cut_point" "cut_point" s_cut_point a_cut_point d_cut_point
  m_cut_point : mg "cut_point" = some (.ref a_cut_point)
  b_cut_point : Binds K d_cut_point ["first", "before", "after"] []
  a_meeting_of : Addr
  d_meeting_of : FuncData
  F_meeting_of : Fun K "meeting_of" "meeting_of" s_meeting_of a_meeting_of d_meeting_of
  m_meeting_of : mg "meeting_of" = some (.ref a_meeting_of)
  b_meeting_of : Binds K d_meeting_of ["first", "second"] []
  a_meeting : Addr
  d_meeting : FuncData
  F_meeting : Fun K "meeting" "meeting" s_meeting a_meeting d_meeting
  m_meeting : mg "meeting" = some (.ref a_meeting)
  b_meeting : Binds K d_meeting ["first", "second"] []
  a__law_stream : Addr
  d__law_stream : FuncData
  F__law_stream : Fun K "_law_stream" "_law_stream" s__law_stream a__law_stream d__law_stream
  m__law_stream : mg "_law_stream" = some (.ref a__law_stream)
  b__law_stream : Binds K d__law_stream ["script"] []
  a__law_next : Addr
  d__law_next : FuncData
  F__law_next : Fun K "_law_next" "_law_next" s__law_next a__law_next d__law_next
  m__law_next : mg "_law_next" = some (.ref a__law_next)
  b__law_next : Binds K d__law_next ["stream", "many"] []
  a__law_is_integer : Addr
  d__law_is_integer : FuncData
  F__law_is_integer : Fun K "_law_is_integer" "_law_is_integer" s__law_is_integer a__law_is_integer d__law_is_integer
  m__law_is_integer : mg "_law_is_integer" = some (.ref a__law_is_integer)
  b__law_is_integer : Binds K d__law_is_integer ["actual"] []
  a__law_gcd : Addr
  d__law_gcd : FuncData
  F__law_gcd : Fun K "_law_gcd" "_law_gcd" s__law_gcd a__law_gcd d__law_gcd
  m__law_gcd : mg "_law_gcd" = some (.ref a__law_gcd)
  b__law_gcd : Binds K d__law_gcd ["a", "b"] []
  a__law_low : Addr
  d__law_low : FuncData
  F__law_low : Fun K "_law_low" "_law_low" s__law_low a__law_low d__law_low
  m__law_low : mg "_law_low" = some (.ref a__law_low)
  b__law_low : Binds K d__law_low ["n", "d"] []
  a__law_plus : Addr
  d__law_plus : FuncData
  F__law_plus : Fun K "_law_plus" "_law_plus" s__law_plus a__law_plus d__law_plus
  m__law_plus : mg "_law_plus" = some (.ref a__law_plus)
  b__law_plus : Binds K d__law_plus ["a", "b"] []
  a__law_times : Addr
  d__law_times : FuncData
  F__law_times : Fun K "_law_times" "_law_times" s__law_times a__law_times d__law_times
  m__law_times : mg "_law_times" = some (.ref a__law_times)
  b__law_times : Binds K d__law_times ["a", "b"] []
  a__law_equal : Addr
  d__law_equal : FuncData
  F__law_equal : Fun K "_law_equal" "_law_equal" s__law_equal a__law_equal d__law_equal
  m__law_equal : mg "_law_equal" = some (.ref a__law_equal)
  b__law_equal : Binds K d__law_equal ["actual", "due"] []
  a__law_turn : Addr
  d__law_turn : FuncData
  F__law_turn : Fun K "_law_turn" "_law_turn" s__law_turn a__law_turn d__law_turn
  m__law_turn : mg "_law_turn" = some (.ref a__law_turn)
  b__law_turn : Binds K d__law_turn ["a", "b", "c"] []
  a__law_sign : Addr
  d__law_sign : FuncData
  F__law_sign : Fun K "_law_sign" "_law_sign" s__law_sign a__law_sign d__law_sign
  m__law_sign : mg "_law_sign" = some (.ref a__law_sign)
  b__law_sign : Binds K d__law_sign ["n"] []
  a__law_between : Addr
  d__law_between : FuncData
  F__law_between : Fun K "_law_between" "_law_between" s__law_between a__law_between d__law_between
  m__law_between : mg "_law_between" = some (.ref a__law_between)
  b__law_between : Binds K d__law_between ["p", "a", "b"] []
  a__law_point : Addr
  d__law_point : FuncData
  F__law_point : Fun K "_law_point" "_law_point" s__law_point a__law_point d__law_point
  m__law_point : mg "_law_point" = some (.ref a__law_point)
  b__law_point : Binds K d__law_point ["stream", "far"] []
  a__law_far : Addr
  d__law_far : FuncData
  F__law_far : Fun K "_law_far" "_law_far" s__law_far a__law_far d__law_far
  m__law_far : mg "_law_far" = some (.ref a__law_far)
  b__law_far : Binds K d__law_far ["stream"] []
  a__law_segment : Addr
  d__law_segment : FuncData
  F__law_segment : Fun K "_law_segment" "_law_segment" s__law_segment a__law_segment d__law_segment
  m__law_segment : mg "_law_segment" = some (.ref a__law_segment)
  b__law_segment : Binds K d__law_segment ["stream", "far"] []
  a__law_ends : Addr
  d__law_ends : FuncData
  F__law_ends : Fun K "_law_ends" "_law_ends" s__law_ends a__law_ends d__law_ends
  m__law_ends : mg "_law_ends" = some (.ref a__law_ends)
  b__law_ends : Binds K d__law_ends ["s", "t"] []
  a__law_apart : Addr
  d__law_apart : FuncData
  F__law_apart : Fun K "_law_apart" "_law_apart" s__law_apart a__law_apart d__law_apart
  m__law_apart : mg "_law_apart" = some (.ref a__law_apart)
  b__law_apart : Binds K d__law_apart ["s", "t"] []
  a__law_is_on_line : Addr
  d__law_is_on_line : FuncData
  F__law_is_on_line : Fun K "_law_is_on_line" "_law_is_on_line" s__law_is_on_line a__law_is_on_line d__law_is_on_line
  m__law_is_on_line : mg "_law_is_on_line" = some (.ref a__law_is_on_line)
  b__law_is_on_line : Binds K d__law_is_on_line ["x", "y", "s"] []
  a__law_pair : Addr
  d__law_pair : FuncData
  F__law_pair : Fun K "_law_pair" "_law_pair" s__law_pair a__law_pair d__law_pair
  m__law_pair : mg "_law_pair" = some (.ref a__law_pair)
  b__law_pair : Binds K d__law_pair ["stream"] []
  a_law : Addr
  d_law : FuncData
  F_law : Fun K "law" "law" s_law a_law d_law
  m_law : mg "law" = some (.ref a_law)
  b_law : Binds K d_law ["script"] []
  n_abs : mg "abs" = none
  n_all : mg "all" = none
  n_bool : mg "bool" = none
  n_int : mg "int" = none
  n_isinstance : mg "isinstance" = none
  n_len : mg "len" = none
  n_list : mg "list" = none
  n_max : mg "max" = none
  n_min : mg "min" = none
  n_range : mg "range" = none
  n_sorted : mg "sorted" = none
  n_str : mg "str" = none
  n_tuple : mg "tuple" = none
  c_HIGHEST : ∃ t, mg "HIGHEST" = some (.int (1000) t)
  c_LOWEST : ∃ t, mg "LOWEST" = some (.int (-1000) t)
  n_gcd : mg "gcd" = some (.builtin "math.gcd")

section
variable {P : Program} {w : World} {K : PySem.W.Frag} {mg : Str → Option Value} {base : Heap}


theorem ok_is_whole (T : Txt K mg) : FnOk P w K mg base CX0 1 T.a_is_whole T.d_is_whole ["value"] (fun vs H Q _ => ∃ x n, vs = [x] ∧ Ty K H x n ∧ Q (.bl (n == "int")) H) := by
  refine T.F_is_whole.ok sc_is_whole (fun vs H Q E h => ?_) (fun cdv A outer s H vs Q E hr h => ?_)
  · obtain ⟨x, n, rfl, hx, k⟩ := h
    rfl
  · obtain ⟨x, n, rfl, hx, k⟩ := h
    refine ⟨_, (pss_one (ps_ret (pe_and (pe_callB call_isi (by rfl) T.n_isinstance (by decide +kernel) (pa_cons (pv 0) (pa_cons (pe_bltn (v := .ty "int") (by rfl) T.n_int (by decide +kernel) rfl) pa_nil))) (pe_one (pe_not (pe_callB call_isi (by rfl) T.n_isinstance (by decide +kernel) (pa_cons (pv 0) (pa_cons (pe_bltn (v := .ty "bool") (by rfl) T.n_bool (by decide +kernel) rfl) pa_nil)))))))), ?_⟩
    refine ⟨_, rfl, ⟨_, _, _, _, _, rfl, .ty _, (hx).x, isaN (Ty.six hx) (by simp [My.six]), ⟨_, rfl, ?_⟩⟩⟩
    cases hx
    all_goals first | (refine ifTr (by decide) ?_) | (refine ifFa (by decide) ?_; exact k)
    · exact ⟨_, rfl, ⟨_, _, _, _, _, rfl, .ty _, ((Ty.bl _)).x, isaN (by simp [My.six]) (by simp [My.six]), ⟨_, rfl, k⟩⟩⟩
    · exact ⟨_, rfl, ⟨_, _, _, _, _, rfl, .ty _, ((Ty.int _)).x, isaN (by simp [My.six]) (by simp [My.six]), ⟨_, rfl, k⟩⟩⟩

theorem ok_is_pair (T : Txt K mg) : FnOk P w K mg base CX0 1 T.a_is_pair T.d_is_pair ["value"] (fun vs H Q _ => ∃ x n, vs = [x] ∧ Ty K H x n ∧ (n = "tuple" → ∃ a xs, x = .ref a ∧ SqT K H a xs ∧ Q (.bl (xs.length == 2)) H) ∧ (n ≠ "tuple" → Q (.bl false) H)) := by
  refine T.F_is_pair.ok sc_is_pair (fun vs H Q E h => ?_) (fun cdv A outer s H vs Q E hr h => ?_)
  · obtain ⟨x, n, rfl, hx, k1, k2⟩ := h
    rfl
  · obtain ⟨x, n, rfl, hx, k1, k2⟩ := h
    refine ⟨_, (pss_one (ps_ret (pe_and (pe_callB call_isi (by rfl) T.n_isinstance (by decide +kernel) (pa_cons (pv 0) (pa_cons (pe_bltn (v := .ty "tuple") (by rfl) T.n_tuple (by decide +kernel) rfl) pa_nil))) (pe_one (pe_cmpR op_eq (pe_callB call_len (by rfl) T.n_len (by decide +kernel) (pa_cons (pv 0) pa_nil)) pe_int (nomark _)))))), ?_⟩
    refine ⟨_, rfl, ⟨_, _, _, _, _, rfl, .ty _, (hx).x, isaN (Ty.six hx) (by simp [My.six]), ⟨_, rfl, ?_⟩⟩⟩
    by_cases e : n = "tuple"
    · subst e
      refine ifTr (by decide) ?_
      obtain ⟨a, xs, rfl, ht, k⟩ := k1 rfl
      refine ⟨_, rfl, _, _, rfl, .inr ⟨xs, ht, rfl⟩, rfl, ?_⟩
      have e : decide (V.int (xs.length : Int) = V.int 2) = (xs.length == 2) := by
        by_cases q : xs.length = 2
        · rw [q]; rfl
        · rw [beq_false_of_ne q]; exact decide_eq_false fun z => q (by injection z with z; omega)
      rw [e]
      exact k
    · refine ifFa ?_ (k2 e)
      cases hx <;> first | rfl | exact absurd rfl e

theorem ok_need (T : Txt K mg) : FnOk P w K mg base CX0 2 T.a_need T.d_need ["holds", "name"] (fun vs H Q _ => ∃ b x, vs = [.bl b, x] ∧ b = true ∧ Q .non H) := by
  refine T.F_need.ok sc_need (fun vs H Q E h => ?_) (fun cdv A outer s H vs Q E hr h => ?_)
  · obtain ⟨b, x, rfl, rfl, k⟩ := h
    rfl
  · obtain ⟨b, x, rfl, rfl, k⟩ := h
    refine ⟨_, (pss_one (ps_if (pt_not (pt_val (pv 0)))
        (pss_one ps_never)
        pss_nil)), ?_⟩
    exact ⟨_, rfl, _, rfl, iteF k⟩

theorem ok_lowest (T : Txt K mg) : FnOk P w K mg base CX0 1 T.a_lowest T.d_lowest ["n", "d"] (fun vs H Q _ => ∃ n d : Int, vs = [.int n, .int d] ∧ d ≠ 0 ∧ n.natAbs ≤ 2 ^ 200 ∧ d.natAbs ≤ 2 ^ 200 ∧ ∀ p, H p = none → Q (.ref p) (upd H p (.tup [.int (lowN n d), .int (lowD n d)]))) := by
  refine T.F_lowest.ok sc_lowest (fun vs H Q E h => ?_) (fun cdv A outer s H vs Q E hr h => ?_)
  · obtain ⟨n, d, rfl, d0, h1, h2, k⟩ := h
    rfl
  · obtain ⟨n, d, rfl, d0, h1, h2, k⟩ := h
    refine ⟨_, (pss_cons (ps_set (i := 2) sc_lowest.nd rfl (Or.inl rfl) (pe_callBfun cr_gcd (by rfl) T.n_gcd (pa_cons (pv 0) (pa_cons (pv 1) pa_nil))))
      (C8.pss_cut (ps_if (pt_cmpR op_lt (pv 1) pe_int (nomark _))
        (pss_one (ps_set (i := 2) sc_lowest.nd rfl (Or.inl rfl) (pe_un un_neg (pv 2))))
        pss_nil)
      (pss_one (ps_ret (pe_tup (pa_cons (pe_op op_fdivV (pv 0) (pv 2)) (pa_cons (pe_op op_fdivV (pv 1) (pv 2)) pa_nil))))))), ?_⟩
    refine ⟨_, rfl, _, rfl, _, _, rfl, ?_⟩
    have hb := Nat.le_trans (sgcd_le (n := n) d0) h2
    refine ⟨fun σ' H' => H' = H ∧ σ' = [some (.int n), some (.int d), some (.int (sgcd n d))], ?_, ?_⟩
    · refine ⟨_, rfl, _, _, rfl, rfl, _, rfl, ifD (fun e => ?_) (fun e => ?_)⟩
      · refine ⟨_, rfl, _, rfl, ?_⟩
        exact ⟨rfl, by rw [sgcd, if_pos e, Int.zero_sub]; rfl⟩
      · exact ⟨rfl, by rw [sgcd, if_neg e]; rfl⟩
    · rintro σ' H' ⟨rfl, rfl⟩
      exact ⟨_, rfl, _, rfl, _, _, rfl, rfl, ⟨sgcd_ne d0, pow200 hb⟩, _, rfl, _, rfl, _, _, rfl, rfl, ⟨sgcd_ne d0, pow200 hb⟩, small rfl, fun p hp => k p hp⟩

theorem ok_is_coordinate (T : Txt K mg) : FnOk P w K mg base CX0 2 T.a_is_coordinate T.d_is_coordinate ["value"] (fun vs H Q _ => ∃ x n, vs = [x] ∧ Ty K H x n ∧ Q (.bl (coordB x)) H) := by
  refine T.F_is_coordinate.ok sc_is_coordinate (fun vs H Q E h => ?_) (fun cdv A outer s H vs Q E hr h => ?_)
  · obtain ⟨x, n, rfl, hx, k⟩ := h
    rfl
  · obtain ⟨x, n, rfl, hx, k⟩ := h
    refine ⟨_, (pss_one (ps_ret (pe_and (pe_call (ok_is_whole T) (hr.mono (by omega)) rfl T.m_is_whole T.F_is_whole.kp T.b_is_whole .nil pass0 (pa_cons (pv 0) pa_nil)) (pe_one (pe_chain op_le op_le (pe_gI T.c_LOWEST) (pv 0) (pe_gI T.c_HIGHEST)))))), ?_⟩
    refine ⟨_, rfl, _, _, rfl, hx, ⟨_, rfl, ?_⟩⟩
    cases hx
    all_goals first | (refine ifTr (by decide) ?_) | (refine ifFa (by decide) ?_; exact k)
    rename_i i
    refine ⟨_, rfl, _, _, rfl, rfl, ⟨_, rfl, ?_⟩⟩
    refine ifB (fun e => ?_) (fun e => ?_)
    · refine ⟨_, _, rfl, rfl, ?_⟩
      rw [show coordB (.int i) = (decide (-1000 ≤ i) && decide (i ≤ 1000)) from rfl, e, Bool.true_and] at k
      exact k
    · rw [show coordB (.int i) = (decide (-1000 ≤ i) && decide (i ≤ 1000)) from rfl, e, Bool.false_and] at k
      exact k

theorem ok_is_point (T : Txt K mg) : FnOk P w K mg base CX0 3 T.a_is_point T.d_is_point ["value"] (fun vs H Q _ => ∃ x n, vs = [x] ∧ Ty K H x n ∧ (n = "tuple" → ∃ a xs, x = .ref a ∧ SqT K H a xs ∧ (∀ v ∈ xs, ∃ m, Ty K H v m) ∧ Q (.bl (pointB xs)) H) ∧ (n ≠ "tuple" → Q (.bl false) H)) := by
  refine T.F_is_point.ok sc_is_point (fun vs H Q E h => ?_) (fun cdv A outer s H vs Q E hr h => ?_)
  · obtain ⟨x, n, rfl, hx, k1, k2⟩ := h
    rfl
  · obtain ⟨x, n, rfl, hx, k1, k2⟩ := h
    refine ⟨_, (pss_one (ps_ret (pe_and (pe_call (ok_is_pair T) (hr.mono (by omega)) rfl T.m_is_pair T.F_is_pair.kp T.b_is_pair .nil pass0 (pa_cons (pv 0) pa_nil)) (pe_and (pe_call (ok_is_coordinate T) (hr.mono (by omega)) rfl T.m_is_coordinate T.F_is_coordinate.kp T.b_is_coordinate .nil pass0 (pa_cons (pe_ix (r := rIxT K) ix_tup (pv 0) pe_int (fun _ _ => rfl)) pa_nil)) (pe_one (pe_call (ok_is_coordinate T) (hr.mono (by omega)) rfl T.m_is_coordinate T.F_is_coordinate.kp T.b_is_coordinate .nil pass0 (pa_cons (pe_ix (r := rIxT K) ix_tup (pv 0) pe_int (fun _ _ => rfl)) pa_nil))))))), ?_⟩
    refine ⟨_, rfl, _, _, rfl, hx, fun e => ?_, fun e => ?_⟩
    · obtain ⟨a, xs, rfl, ht, hm, k⟩ := k1 e
      refine ⟨a, xs, rfl, ht, _, rfl, ?_⟩
      match xs, ht, hm, k with
      | [], _, _, k => exact iteF k
      | [_], _, _, k => exact iteF k
      | [u, v], ht, hm, k =>
        refine iteT ?_
        obtain ⟨m1, t1⟩ := hm u (by simp)
        obtain ⟨m2, t2⟩ := hm v (by simp)
        refine ⟨_, rfl, _, _, _, _, rfl, rfl, ht, at0, _, _, rfl, t1, _, rfl, ?_⟩
        rw [show pointB [u, v] = (coordB u && coordB v) from rfl] at k
        refine ifB (fun e => ?_) (fun e => ?_)
        · refine ⟨_, rfl, _, _, _, _, rfl, rfl, ht, at1, _, _, rfl, t2, ?_⟩
          rw [e, Bool.true_and] at k
          exact k
        · rw [e, Bool.false_and] at k
          exact k
      | _ :: _ :: _ :: r, _, _, k =>
        refine ifFa ?_ k
        exact beq_false_of_ne (by simp)
    · exact ⟨_, rfl, iteF (k2 e)⟩

theorem ok_is_segment (T : Txt K mg) : FnOk P w K mg base CX0 4 T.a_is_segment T.d_is_segment ["value"] (fun vs H Q _ => ∃ (g a c : Addr) (ax ay bx dy : Int), vs = [.ref g] ∧ SegAt K H g a c ax ay bx dy ∧ Q (.bl true) H) := by
  refine T.F_is_segment.ok sc_is_segment (fun vs H Q E h => ?_) (fun cdv A outer s H vs Q E hr h => ?_)
  · obtain ⟨g, a, c, ax, ay, bx, dy, rfl, hg, k⟩ := h
    rfl
  · obtain ⟨g, a, c, ax, ay, bx, dy, rfl, hg, k⟩ := h
    refine ⟨_, (pss_one (ps_ret (pe_and (pe_call (ok_is_pair T) (hr.mono (by omega)) rfl T.m_is_pair T.F_is_pair.kp T.b_is_pair .nil pass0 (pa_cons (pv 0) pa_nil)) (pe_and (pe_call (ok_is_point T) (hr.mono (by omega)) rfl T.m_is_point T.F_is_point.kp T.b_is_point .nil pass0 (pa_cons (pe_ix (r := rIxT K) ix_tup (pv 0) pe_int (fun _ _ => rfl)) pa_nil)) (pe_and (pe_call (ok_is_point T) (hr.mono (by omega)) rfl T.m_is_point T.F_is_point.kp T.b_is_point .nil pass0 (pa_cons (pe_ix (r := rIxT K) ix_tup (pv 0) pe_int (fun _ _ => rfl)) pa_nil)) (pe_one (pe_cmpR (op_ltP hr.units0) (pe_ix (r := rIxT K) ix_tup (pv 0) pe_int (fun _ _ => rfl)) (pe_ix (r := rIxT K) ix_tup (pv 0) pe_int (fun _ _ => rfl)) (nomark _)))))))), ?_⟩
    refine ⟨_, rfl, _, _, rfl, Ty.tup hg.g, fun _ => ⟨_, _, rfl, hg.g, _, rfl, ?_⟩, fun e => absurd rfl e⟩
    refine ⟨_, rfl, _, _, _, _, rfl, rfl, hg.g, at0, _, _, rfl, Ty.tup hg.a, fun _ => ⟨_, _, rfl, hg.a, two_ints, _, rfl, ifTr hg.oa.b ?_⟩, fun e => absurd rfl e⟩
    refine ⟨_, rfl, _, _, _, _, rfl, rfl, hg.g, at1, _, _, rfl, Ty.tup hg.c, fun _ => ⟨_, _, rfl, hg.c, two_ints, _, rfl, ifTr hg.oc.b ?_⟩, fun e => absurd rfl e⟩
    refine ⟨_, rfl, _, _, _, _, rfl, rfl, hg.g, at0, _, rfl, _, _, _, _, rfl, rfl, hg.g, at1, _, _, _, _, _, _, rfl, rfl, hg.a, hg.c, ?_⟩
    have k : Q (.bl (ltP ax ay bx dy)) H := by rw [hg.lt]; exact k
    exact k

theorem ok_turn_of (T : Txt K mg) : FnOk P w K mg base CX0 1 T.a_turn_of T.d_turn_of ["a", "b", "c"] (fun vs H Q _ => ∃ (a b c : Addr) (ax ay bx dy cx cy : Int), vs = [.ref a, .ref b, .ref c] ∧ SqT K H a [.int ax, .int ay] ∧ SqT K H b [.int bx, .int dy] ∧ SqT K H c [.int cx, .int cy] ∧ (Sm ax ∧ Sm bx ∧ Sm ay ∧ Sm dy) ∧ Q (.int (turnI ax ay bx dy cx cy)) H) := by
  refine T.F_turn_of.ok sc_turn_of (fun vs H Q E h => ?_) (fun cdv A outer s H vs Q E hr h => ?_)
  · obtain ⟨a, b, c, ax, ay, bx, dy, cx, cy, rfl, ha, hb, hc, ⟨s1, s2, s3, s4⟩, k⟩ := h
    rfl
  · obtain ⟨a, b, c, ax, ay, bx, dy, cx, cy, rfl, ha, hb, hc, ⟨s1, s2, s3, s4⟩, k⟩ := h
    refine ⟨_, (pss_one (ps_ret (pe_op op_sub (pe_op op_mul (pe_op op_sub (pe_ix (r := rIxT K) ix_tup (pv 1) pe_int (fun _ _ => rfl)) (pe_ix (r := rIxT K) ix_tup (pv 0) pe_int (fun _ _ => rfl))) (pe_op op_sub (pe_ix (r := rIxT K) ix_tup (pv 2) pe_int (fun _ _ => rfl)) (pe_ix (r := rIxT K) ix_tup (pv 0) pe_int (fun _ _ => rfl)))) (pe_op op_mul (pe_op op_sub (pe_ix (r := rIxT K) ix_tup (pv 1) pe_int (fun _ _ => rfl)) (pe_ix (r := rIxT K) ix_tup (pv 0) pe_int (fun _ _ => rfl))) (pe_op op_sub (pe_ix (r := rIxT K) ix_tup (pv 2) pe_int (fun _ _ => rfl)) (pe_ix (r := rIxT K) ix_tup (pv 0) pe_int (fun _ _ => rfl))))))), ?_⟩
    unfold Sm at s1 s2 s3 s4
    refine ⟨_, rfl, _, _, _, _, rfl, rfl, hb, at0, _, rfl, _, _, _, _, rfl, rfl, ha, at0, _, _, rfl, rfl, _, rfl, _, _, _, _, rfl, rfl, hc, at1, _, rfl, _, _, _, _, rfl, rfl, ha, at1, _, _, rfl, rfl, _, _, rfl, rfl, .inl ⟨by omega, by omega⟩, ?_⟩
    exact ⟨_, rfl, _, _, _, _, rfl, rfl, hb, at1, _, rfl, _, _, _, _, rfl, rfl, ha, at1, _, _, rfl, rfl, _, rfl, _, _, _, _, rfl, rfl, hc, at0, _, rfl, _, _, _, _, rfl, rfl, ha, at0, _, _, rfl, rfl, _, _, rfl, rfl, .inl ⟨by omega, by omega⟩, _, _, rfl, rfl, k⟩

theorem ok_is_on (T : Txt K mg) : FnOk P w K mg base CX0 2 T.a_is_on T.d_is_on ["p", "segment"] (fun vs H Q _ => ∃ (p g a c : Addr) (px py ax ay bx dy : Int), vs = [.ref p, .ref g] ∧ SqT K H p [.int px, .int py] ∧ SegAt K H g a c ax ay bx dy ∧ On px py ∧ Q (.bl (onI ax ay bx dy px py)) H) := by
  refine T.F_is_on.ok sc_is_on (fun vs H Q E h => ?_) (fun cdv A outer s H vs Q E hr h => ?_)
  · obtain ⟨p, g, a, c, px, py, ax, ay, bx, dy, rfl, hp, hg, op, k⟩ := h
    rfl
  · obtain ⟨p, g, a, c, px, py, ax, ay, bx, dy, rfl, hp, hg, op, k⟩ := h
    refine ⟨_, (pss_cons (ps_asg (pv 1) (pg_tup (by rfl) (pgs_cons (pg_name (i := 2) sc_is_on.nd rfl (Or.inl rfl)) (pgs_cons (pg_name (i := 3) sc_is_on.nd rfl (Or.inl rfl)) pgs_nil))))
      (pss_one (ps_ret (pe_and (pe_cmpR op_eq (pe_call (ok_turn_of T) (hr.mono (by omega)) rfl T.m_turn_of T.F_turn_of.kp T.b_turn_of .nil pass0 (pa_cons (pv 2) (pa_cons (pv 3) (pa_cons (pv 0) pa_nil)))) pe_int (nomark _)) (pe_one (pe_chain (op_leP hr.units0) (op_leP hr.units0) (pv 2) (pv 0) (pv 3))))))), ?_⟩
    refine ⟨_, rfl, _, _, rfl, hg.g, rfl, _, _, rfl, _, _, rfl, rfl, ?_⟩
    
    refine ⟨_, rfl, _, rfl, _, rfl, _, _, _, _, _, _, _, _, _, rfl, hg.a, hg.c, hp, ⟨hg.oa.sx, hg.oc.sx, hg.oa.sy, hg.oc.sy⟩, rfl, _, rfl, ifD (fun e => ?_) (fun e => ?_)⟩
    · have e : turnI ax ay bx dy px py = 0 := by injection e
      unfold onI at k
      rw [decide_eq_true e, Bool.true_and] at k
      refine ⟨_, rfl, _, rfl, _, _, _, _, _, _, rfl, rfl, hg.a, hp, _, rfl, ifB (fun q => ?_) (fun q => ?_)⟩
      · refine ⟨_, rfl, _, _, _, _, _, _, rfl, rfl, hp, hg.c, ?_⟩
        rw [q, Bool.true_and] at k
        exact k
      · rw [q, Bool.false_and] at k
        exact k
    · have e : turnI ax ay bx dy px py ≠ 0 := fun z => e (by rw [z])
      unfold onI at k
      rw [decide_eq_false e, Bool.false_and] at k
      exact k

theorem ok_are_apart (T : Txt K mg) : FnOk P w K mg base CX0 1 T.a_are_apart T.d_are_apart ["first", "second"] (fun vs H Q _ => ∃ (g a c h e f : Addr) (ax ay bx dy ex ey fx fy : Int), vs = [.ref g, .ref h] ∧ SegAt K H g a c ax ay bx dy ∧ SegAt K H h e f ex ey fx fy ∧ ∀ H', Same H H' → Q (.bl (apartB (ax, ay) (bx, dy) (ex, ey) (fx, fy))) H') := by
  refine T.F_are_apart.ok sc_are_apart (fun vs H Q E h => ?_) (fun cdv A outer s H vs Q E hr h => ?_)
  · obtain ⟨g, a, c, h, e, f, ax, ay, bx, dy, ex, ey, fx, fy, rfl, hg, hh, k⟩ := h
    rfl
  · obtain ⟨g, a, c, h, e, f, ax, ay, bx, dy, ex, ey, fx, fy, rfl, hg, hh, k⟩ := h
    refine ⟨_, (pss_cons (ps_asg (pe_tup (pa_cons (pv 0) (pa_cons (pv 1) pa_nil))) (pg_tup (by rfl) (pgs_cons (pg_tup (by rfl) (pgs_cons (pg_name (i := 2) sc_are_apart.nd rfl (Or.inl rfl)) (pgs_cons (pg_name (i := 3) sc_are_apart.nd rfl (Or.inl rfl)) pgs_nil))) (pgs_cons (pg_tup (by rfl) (pgs_cons (pg_name (i := 4) sc_are_apart.nd rfl (Or.inl rfl)) (pgs_cons (pg_name (i := 5) sc_are_apart.nd rfl (Or.inl rfl)) pgs_nil))) pgs_nil))))
      (pss_cons (ps_if (PW.pt (pw_or (pt_cmpR op_lt (pe_ix (r := rIxT K) ix_tup (pv 3) pe_int (fun _ _ => rfl)) (pe_ix (r := rIxT K) ix_tup (pv 4) pe_int (fun _ _ => rfl)) (nomark _)) (pw_or1 (pt_cmpR op_lt (pe_ix (r := rIxT K) ix_tup (pv 5) pe_int (fun _ _ => rfl)) (pe_ix (r := rIxT K) ix_tup (pv 2) pe_int (fun _ _ => rfl)) (nomark _)))))
        (pss_one (ps_ret pe_bl))
        pss_nil)
      (pss_one (ps_ret (pe_or (pe_cmpR op_lt (pe_callB (call_max2 rfl) (by rfl) T.n_max (by decide +kernel) (pa_cons (pe_ix (r := rIxT K) ix_tup (pv 2) pe_int (fun _ _ => rfl)) (pa_cons (pe_ix (r := rIxT K) ix_tup (pv 3) pe_int (fun _ _ => rfl)) pa_nil))) (pe_callB (call_min2 rfl) (by rfl) T.n_min (by decide +kernel) (pa_cons (pe_ix (r := rIxT K) ix_tup (pv 4) pe_int (fun _ _ => rfl)) (pa_cons (pe_ix (r := rIxT K) ix_tup (pv 5) pe_int (fun _ _ => rfl)) pa_nil))) (nomark _)) (pe_one (pe_cmpR op_lt (pe_callB (call_max2 rfl) (by rfl) T.n_max (by decide +kernel) (pa_cons (pe_ix (r := rIxT K) ix_tup (pv 4) pe_int (fun _ _ => rfl)) (pa_cons (pe_ix (r := rIxT K) ix_tup (pv 5) pe_int (fun _ _ => rfl)) pa_nil))) (pe_callB (call_min2 rfl) (by rfl) T.n_min (by decide +kernel) (pa_cons (pe_ix (r := rIxT K) ix_tup (pv 2) pe_int (fun _ _ => rfl)) (pa_cons (pe_ix (r := rIxT K) ix_tup (pv 3) pe_int (fun _ _ => rfl)) pa_nil))) (nomark _)))))))), ?_⟩
    refine ⟨_, rfl, _, rfl, small rfl, fun p hp => ?_⟩
    refine ⟨_, _, rfl, tHere, rfl, _, _, rfl, _, _, rfl, tOver hp hg.g, rfl, _, _, rfl, _, _, rfl, rfl, _, _, rfl, _, _, rfl, tOver hp hh.g, rfl, _, _, rfl, _, _, rfl, rfl, rfl, ?_⟩
    
    have hg1 := hg.same (same_new (o := HO.tup [.ref g, .ref h]) hp)
    have hh1 := hh.same (same_new (o := HO.tup [.ref g, .ref h]) hp)
    have k := k _ (same_new (o := HO.tup [.ref g, .ref h]) hp)
    unfold apartB mx mn at k
    dsimp only at k
    refine ⟨_, rfl, _, _, _, _, rfl, rfl, hg1.c, at0, _, rfl, _, _, _, _, rfl, rfl, hh1.a, at0, _, _, rfl, rfl, _, rfl, ifD (fun q => ?_) (fun q => ?_)⟩
    · rw [decide_eq_true q, Bool.true_or, Bool.true_or] at k
      exact k
    rw [decide_eq_false q, Bool.false_or] at k
    refine ⟨_, rfl, _, _, _, _, rfl, rfl, hh1.c, at0, _, rfl, _, _, _, _, rfl, rfl, hg1.a, at0, _, _, rfl, rfl, _, rfl, ifD (fun q => ?_) (fun q => ?_)⟩
    · rw [decide_eq_true q, Bool.true_or] at k
      exact k
    rw [decide_eq_false q, Bool.false_or] at k
    refine ⟨_, rfl, _, _, _, _, rfl, rfl, hg1.a, at1, _, rfl, _, _, _, _, rfl, rfl, hg1.c, at1, _, _, rfl, _, rfl, _, _, _, _, rfl, rfl, hh1.a, at1, _, rfl, _, _, _, _, rfl, rfl, hh1.c, at1, _, _, rfl, _, _, rfl, rfl, ?_⟩
    refine ⟨_, rfl, ifB (fun q => ?_) (fun q => ?_)⟩
    · have q : decide ((if dy > ay then dy else ay) < (if fy < ey then fy else ey)) = true := q
      rw [q, Bool.true_or] at k
      exact k
    have q : decide ((if dy > ay then dy else ay) < (if fy < ey then fy else ey)) = false := q
    rw [q, Bool.false_or] at k
    exact ⟨_, rfl, _, _, _, _, rfl, rfl, hh1.a, at1, _, rfl, _, _, _, _, rfl, rfl, hh1.c, at1, _, _, rfl, _, rfl, _, _, _, _, rfl, rfl, hg1.a, at1, _, rfl, _, _, _, _, rfl, rfl, hg1.c, at1, _, _, rfl, _, _, rfl, rfl, k⟩

theorem ok_meeting_on_line (T : Txt K mg) : FnOk P w K mg base CX0 1 T.a_meeting_on_line T.d_meeting_on_line ["first", "second"] (fun vs H Q _ => ∃ (g a c h e f : Addr) (ax ay bx dy ex ey fx fy : Int), vs = [.ref g, .ref h] ∧ SegAt K H g a c ax ay bx dy ∧ SegAt K H h e f ex ey fx fy ∧ ∀ v H', Same H H' → MtAt K H' v (lineM (ax, ay) (bx, dy) (ex, ey) (fx, fy)) → Q v H') := by
  refine T.F_meeting_on_line.ok sc_meeting_on_line (fun vs H Q E h => ?_) (fun cdv A outer s H vs Q E hr h => ?_)
  · obtain ⟨g, a, c, h, e, f, ax, ay, bx, dy, ex, ey, fx, fy, rfl, hg, hh, k⟩ := h
    rfl
  · obtain ⟨g, a, c, h, e, f, ax, ay, bx, dy, ex, ey, fx, fy, rfl, hg, hh, k⟩ := h
    refine ⟨_, (pss_cons (ps_set (i := 2) sc_meeting_on_line.nd rfl (Or.inl rfl) (pe_callB (call_maxP rfl hr.units) (by rfl) T.n_max (by decide +kernel) (pa_cons (pe_ix (r := rIxT K) ix_tup (pv 0) pe_int (fun _ _ => rfl)) (pa_cons (pe_ix (r := rIxT K) ix_tup (pv 1) pe_int (fun _ _ => rfl)) pa_nil))))
      (pss_cons (ps_set (i := 3) sc_meeting_on_line.nd rfl (Or.inl rfl) (pe_callB (call_minP rfl hr.units) (by rfl) T.n_min (by decide +kernel) (pa_cons (pe_ix (r := rIxT K) ix_tup (pv 0) pe_int (fun _ _ => rfl)) (pa_cons (pe_ix (r := rIxT K) ix_tup (pv 1) pe_int (fun _ _ => rfl)) pa_nil))))
      (pss_cons (ps_if (pt_cmpR (op_gtP hr.units) (pv 2) (pv 3) (nomark _))
        (pss_one (ps_ret (pe_tup (pa_cons pe_str pa_nil))))
        pss_nil)
      (pss_cons (ps_if (pt_cmpR (op_eqP hr.units) (pv 2) (pv 3) (nomark _))
        (pss_one (ps_ret (pe_tup (pa_cons pe_str (pa_cons (pv 2) pa_nil)))))
        pss_nil)
      (pss_one (ps_ret (pe_tup (pa_cons pe_str (pa_cons (pv 2) (pa_cons (pv 3) pa_nil)))))))))), ?_⟩
    refine ⟨_, rfl, _, _, _, _, rfl, rfl, hg.g, at0, _, rfl, _, _, _, _, rfl, rfl, hh.g, at0, _, _, _, _, _, _, rfl, hg.a, hh.a, ?_⟩
    refine ⟨_, rfl, _, _, _, _, rfl, rfl, hg.g, at1, _, rfl, _, _, _, _, rfl, rfl, hh.g, at1, _, _, _, _, _, _, rfl, hg.c, hh.c, ?_⟩
    dsimp only
    have h1 : SqT K H (if ltP ax ay ex ey = true then e else a) [.int (low (ax, ay) (ex, ey)).1, .int (low (ax, ay) (ex, ey)).2] := by
      by_cases l : ltP ax ay ex ey = true
      · have e1 : low (ax, ay) (ex, ey) = (ex, ey) := if_pos l
        rw [if_pos l, e1]; exact hh.a
      · have e1 : low (ax, ay) (ex, ey) = (ax, ay) := if_neg l
        rw [if_neg l, e1]; exact hg.a
    have h2 : SqT K H (if ltP fx fy bx dy = true then f else c) [.int (high (bx, dy) (fx, fy)).1, .int (high (bx, dy) (fx, fy)).2] := by
      by_cases l : ltP fx fy bx dy = true
      · have e1 : high (bx, dy) (fx, fy) = (fx, fy) := if_pos l
        rw [if_pos l, e1]; exact hh.c
      · have e1 : high (bx, dy) (fx, fy) = (bx, dy) := if_neg l
        rw [if_neg l, e1]; exact hg.c
    unfold lineM at k
    generalize (if ltP ax ay ex ey = true then e else a) = lo at h1 ⊢
    generalize (if ltP fx fy bx dy = true then f else c) = hi at h2 ⊢
    generalize low (ax, ay) (ex, ey) = L at h1 k
    generalize high (bx, dy) (fx, fy) = R at h2 k
    refine ⟨_, rfl, _, rfl, _, _, _, _, _, _, rfl, rfl, h1, h2, _, rfl, ifB (fun q => ?_) (fun q => ?_)⟩
    · have q : lt R L = true := q
      rw [if_pos q] at k
      exact ⟨small rfl, fun p hp => k _ _ (same_new hp) ⟨p, rfl, tHere⟩⟩
    have q : ¬ lt R L = true := fun z => by
      have z : ltP R.1 R.2 L.1 L.2 = true := z
      rw [q] at z; cases z
    rw [if_neg q] at k
    refine ⟨_, rfl, _, rfl, _, _, _, _, _, _, rfl, rfl, h1, h2, _, rfl, ifD (fun z => ?_) (fun z => ?_)⟩
    · rw [if_pos (pt_eq z.1 z.2)] at k
      exact ⟨_, rfl, small rfl, fun p hp => k _ _ (same_new hp) ⟨p, _, rfl, tHere, tOver hp h1⟩⟩
    · rw [if_neg (fun w => z (by rw [w]; exact ⟨rfl, rfl⟩))] at k
      exact ⟨_, rfl, _, rfl, small rfl, fun p hp => k _ _ (same_new hp) ⟨p, _, _, rfl, tHere, tOver hp h1, tOver hp h2⟩⟩

theorem ok_common_end (T : Txt K mg) : FnOk P w K mg base CX0 3 T.a_common_end T.d_common_end ["first", "second"] (fun vs H Q _ => ∃ (g a c h e f : Addr) (ax ay bx dy ex ey fx fy : Int), vs = [.ref g, .ref h] ∧ SegAt K H g a c ax ay bx dy ∧ SegAt K H h e f ex ey fx fy ∧ ∀ v, CeAt K H v (endM (ax, ay) (bx, dy) (ex, ey) (fx, fy)) → Q v H) := by
  refine T.F_common_end.ok sc_common_end (fun vs H Q E h => ?_) (fun cdv A outer s H vs Q E hr h => ?_)
  · obtain ⟨g, a, c, h, e, f, ax, ay, bx, dy, ex, ey, fx, fy, rfl, hg, hh, k⟩ := h
    rfl
  · obtain ⟨g, a, c, h, e, f, ax, ay, bx, dy, ex, ey, fx, fy, rfl, hg, hh, k⟩ := h
    refine ⟨_, (pss_cons (ps_for PassesOwn.never rfl (pi_tup (pv 0)) (pg_name (i := 2) sc_common_end.nd rfl (Or.inl rfl))
        (pss_one (ps_if (pt_val (pe_call (ok_is_on T) (hr.mono (by omega)) rfl T.m_is_on T.F_is_on.kp T.b_is_on .nil pass0 (pa_cons (pv 2) (pa_cons (pv 1) pa_nil))))
          (pss_one (ps_ret (pv 2)))
          pss_nil)))
      (pss_cons (ps_for PassesOwn.never rfl (pi_tup (pv 1)) (pg_name (i := 2) sc_common_end.nd rfl (Or.inl rfl))
        (pss_one (ps_if (pt_val (pe_call (ok_is_on T) (hr.mono (by omega)) rfl T.m_is_on T.F_is_on.kp T.b_is_on .nil pass0 (pa_cons (pv 2) (pa_cons (pv 0) pa_nil))))
          (pss_one (ps_ret (pv 2)))
          pss_nil)))
      (pss_one (ps_ret pe_non)))), ?_⟩
    refine ⟨_, rfl, _, rfl, ⟨_, hg.g⟩, for_tup (K := K) (a := g) (xs := [.ref a, .ref c]) (fun i σ' H' => H' = H ∧ ∃ v, σ' = [some (.ref g), some (.ref h), v] ∧ (1 ≤ i → on (ax, ay) (ex, ey) (fx, fy) = false) ∧ (2 ≤ i → on (bx, dy) (ex, ey) (fx, fy) = false))
      ⟨rfl, none, rfl, fun z => absurd z (by decide), fun z => absurd z (by decide)⟩ (fun i σ' H' _ z => by rw [z.1]; exact hg.g) ?_ ?_⟩
    · rintro i x σ' H' hx ⟨rfl, v, rfl, n1, n2⟩
      have hi : i < 2 := (List.getElem?_eq_some_iff.mp hx).1
      rcases (show i = 0 ∨ i = 1 by omega) with rfl | rfl <;> cases hx
      · refine ⟨_, rfl, _, rfl, _, _, _, _, _, _, _, _, _, _, rfl, hg.a, hh, hg.oa, _, rfl, ifB (fun q => ?_) (fun q => ?_)⟩
        · have z : endM (ax, ay) (bx, dy) (ex, ey) (fx, fy) = some (ax, ay) := if_pos q
          rw [z] at k
          exact ⟨_, rfl, k _ ⟨_, rfl, hg.a⟩⟩
        · exact ⟨rfl, _, rfl, fun _ => q, fun z => absurd z (by decide)⟩
      · have n1 := n1 (by decide)
        refine ⟨_, rfl, _, rfl, _, _, _, _, _, _, _, _, _, _, rfl, hg.c, hh, hg.oc, _, rfl, ifB (fun q => ?_) (fun q => ?_)⟩
        · have z : endM (ax, ay) (bx, dy) (ex, ey) (fx, fy) = some (bx, dy) := by
            have q : on (bx, dy) (ex, ey) (fx, fy) = true := q
            unfold endM
            rw [n1, q]; rfl
          rw [z] at k
          exact ⟨_, rfl, k _ ⟨_, rfl, hg.c⟩⟩
        · exact ⟨rfl, _, rfl, fun _ => n1, fun _ => q⟩
    rintro σ' H' ⟨rfl, v, rfl, n1, n2⟩
    have n1 := n1 (Nat.le_of_ble_eq_true rfl)
    have n2 := n2 (Nat.le_of_ble_eq_true rfl)
    refine ⟨_, rfl, _, rfl, ⟨_, hh.g⟩, for_tup (K := K) (a := h) (xs := [.ref e, .ref f]) (fun i σ' H'' => H'' = H' ∧ ∃ v, σ' = [some (.ref g), some (.ref h), v] ∧ (1 ≤ i → on (ex, ey) (ax, ay) (bx, dy) = false) ∧ (2 ≤ i → on (fx, fy) (ax, ay) (bx, dy) = false))
      ⟨rfl, _, rfl, fun z => absurd z (by decide), fun z => absurd z (by decide)⟩ (fun i σ' H' _ z => by rw [z.1]; exact hh.g) ?_ ?_⟩
    · rintro i x σ' H' hx ⟨rfl, v, rfl, n3, n4⟩
      have hi : i < 2 := (List.getElem?_eq_some_iff.mp hx).1
      rcases (show i = 0 ∨ i = 1 by omega) with rfl | rfl <;> cases hx
      · refine ⟨_, rfl, _, rfl, _, _, _, _, _, _, _, _, _, _, rfl, hh.a, hg, hh.oa, _, rfl, ifB (fun q => ?_) (fun q => ?_)⟩
        · have z : endM (ax, ay) (bx, dy) (ex, ey) (fx, fy) = some (ex, ey) := by
            have q : on (ex, ey) (ax, ay) (bx, dy) = true := q
            unfold endM
            rw [n1, n2, q]; rfl
          rw [z] at k
          exact ⟨_, rfl, k _ ⟨_, rfl, hh.a⟩⟩
        · exact ⟨rfl, _, rfl, fun _ => q, fun z => absurd z (by decide)⟩
      · have n3 := n3 (by decide)
        refine ⟨_, rfl, _, rfl, _, _, _, _, _, _, _, _, _, _, rfl, hh.c, hg, hh.oc, _, rfl, ifB (fun q => ?_) (fun q => ?_)⟩
        · have z : endM (ax, ay) (bx, dy) (ex, ey) (fx, fy) = some (fx, fy) := by
            have q : on (fx, fy) (ax, ay) (bx, dy) = true := q
            unfold endM
            rw [n1, n2, n3, q]; rfl
          rw [z] at k
          exact ⟨_, rfl, k _ ⟨_, rfl, hh.c⟩⟩
        · exact ⟨rfl, _, rfl, fun _ => n3, fun _ => q⟩
    rintro σ' H' ⟨rfl, v, rfl, n3, n4⟩
    have z : endM (ax, ay) (bx, dy) (ex, ey) (fx, fy) = none := by
      unfold endM
      rw [n1, n2, n3 (Nat.le_of_ble_eq_true rfl), n4 (Nat.le_of_ble_eq_true rfl)]; rfl
    rw [z] at k
    exact k _ rfl

theorem ok_cut_point (T : Txt K mg) : FnOk P w K mg base CX0 2 T.a_cut_point T.d_cut_point ["first", "before", "after"] (fun vs H Q _ => ∃ (g a c : Addr) (ax ay bx dy be af : Int), vs = [.ref g, .int be, .int af] ∧ SegAt K H g a c ax ay bx dy ∧ be - af ≠ 0 ∧ be.natAbs ≤ 2 ^ 23 ∧ af.natAbs ≤ 2 ^ 23 ∧ ∀ (p q r : Addr) H', Same H H' → SqT K H' p [.ref q, .ref r] → SqT K H' q [.int (lowN (cutN ax bx be af) (be - af)), .int (lowD (cutN ax bx be af) (be - af))] → SqT K H' r [.int (lowN (cutN ay dy be af) (be - af)), .int (lowD (cutN ay dy be af) (be - af))] → Q (.ref p) H') := by
  refine T.F_cut_point.ok sc_cut_point (fun vs H Q E h => ?_) (fun cdv A outer s H vs Q E hr h => ?_)
  · obtain ⟨g, a, c, ax, ay, bx, dy, be, af, rfl, hg, hw, b1, b2, k⟩ := h
    rfl
  · obtain ⟨g, a, c, ax, ay, bx, dy, be, af, rfl, hg, hw, b1, b2, k⟩ := h
    refine ⟨_, (pss_cons (ps_asg (pv 0) (pg_tup (by rfl) (pgs_cons (pg_name (i := 3) sc_cut_point.nd rfl (Or.inl rfl)) (pgs_cons (pg_name (i := 4) sc_cut_point.nd rfl (Or.inl rfl)) pgs_nil))))
      (pss_cons (ps_set (i := 5) sc_cut_point.nd rfl (Or.inl rfl) (pe_op op_sub (pv 1) (pv 2)))
      (pss_one (ps_ret (pe_tup (pa_cons (pe_call (ok_lowest T) (hr.mono (by omega)) rfl T.m_lowest T.F_lowest.kp T.b_lowest .nil pass0 (pa_cons (pe_op op_add (pe_op op_mul (pe_ix (r := rIxT K) ix_tup (pv 3) pe_int (fun _ _ => rfl)) (pv 5)) (pe_op op_mul (pv 1) (pe_op op_sub (pe_ix (r := rIxT K) ix_tup (pv 4) pe_int (fun _ _ => rfl)) (pe_ix (r := rIxT K) ix_tup (pv 3) pe_int (fun _ _ => rfl))))) (pa_cons (pv 5) pa_nil))) (pa_cons (pe_call (ok_lowest T) (hr.mono (by omega)) rfl T.m_lowest T.F_lowest.kp T.b_lowest .nil pass0 (pa_cons (pe_op op_add (pe_op op_mul (pe_ix (r := rIxT K) ix_tup (pv 3) pe_int (fun _ _ => rfl)) (pv 5)) (pe_op op_mul (pv 1) (pe_op op_sub (pe_ix (r := rIxT K) ix_tup (pv 4) pe_int (fun _ _ => rfl)) (pe_ix (r := rIxT K) ix_tup (pv 3) pe_int (fun _ _ => rfl))))) (pa_cons (pv 5) pa_nil))) pa_nil))))))), ?_⟩
    refine ⟨_, rfl, _, _, rfl, hg.g, rfl, _, _, rfl, _, _, rfl, rfl, ?_⟩
    refine ⟨_, rfl, _, rfl, _, _, rfl, rfl, ?_⟩
    have oa0 : ax.natAbs ≤ 2 ^ 11 := by have z := hg.oa; unfold On at z; omega
    have oa1 : ay.natAbs ≤ 2 ^ 11 := by have z := hg.oa; unfold On at z; omega
    have bw : (be - af).natAbs ≤ 2 ^ 24 := sub_le b1 b2
    have v := hg.oc.d hg.oa
    have c0 : (cutN ax bx be af).natAbs ≤ 2 ^ 36 := add_le (x := 35) (mul_le (x := 11) (y := 24) oa0 bw) (pow_up (mul_le (x := 23) (y := 11) b1 v.1))
    have c1 : (cutN ay dy be af).natAbs ≤ 2 ^ 36 := add_le (x := 35) (mul_le (x := 11) (y := 24) oa1 bw) (pow_up (mul_le (x := 23) (y := 11) b1 v.2))
    refine ⟨_, rfl, _, _, _, _, rfl, rfl, hg.a, at0, _, rfl, _, _, rfl, rfl, .inl (m64 oa0), _, rfl, _, rfl, _, _, _, _, rfl, rfl, hg.c, at0, _, rfl, _, _, _, _, rfl, rfl, hg.a, at0, _, _, rfl, rfl, _, _, rfl, rfl, .inl (m64 b1), _, _, rfl, rfl, _, rfl, _, _, rfl, hw, pow_up c0, pow_up bw, fun q hq => ?_⟩
    have hg1 := hg.same (same_new (o := HO.tup [.int (lowN (cutN ax bx be af) (be - af)), .int (lowD (cutN ax bx be af) (be - af))]) hq)
    refine ⟨_, rfl, _, _, _, _, rfl, rfl, hg1.a, at1, _, rfl, _, _, rfl, rfl, .inl (m64 oa1), _, rfl, _, rfl, _, _, _, _, rfl, rfl, hg1.c, at1, _, rfl, _, _, _, _, rfl, rfl, hg1.a, at1, _, _, rfl, rfl, _, _, rfl, rfl, .inl (m64 b1), _, _, rfl, rfl, _, rfl, _, _, rfl, hw, pow_up c1, pow_up bw, fun r hr => ?_⟩
    refine ⟨small rfl, fun p hp => k p q r _ (same_then (same_then (same_new hq) hr) hp) tHere (tOver hp (tOver hr tHere)) (tOver hp tHere)⟩

theorem ok_meeting_of (T : Txt K mg) : FnOk P w K mg base CX0 4 T.a_meeting_of T.d_meeting_of ["first", "second"] (fun vs H Q _ => ∃ (g a c h e f : Addr) (ax ay bx dy ex ey fx fy : Int), vs = [.ref g, .ref h] ∧ SegAt K H g a c ax ay bx dy ∧ SegAt K H h e f ex ey fx fy ∧ ∀ v H', Same H H' → MtAt K H' v (meetM (ax, ay) (bx, dy) (ex, ey) (fx, fy)) → Q v H') := by
  refine T.F_meeting_of.ok sc_meeting_of (fun vs H Q E h => ?_) (fun cdv A outer s H vs Q E hr h => ?_)
  · obtain ⟨g, a, c, h, e, f, ax, ay, bx, dy, ex, ey, fx, fy, rfl, hg, hh, k⟩ := h
    rfl
  · obtain ⟨g, a, c, h, e, f, ax, ay, bx, dy, ex, ey, fx, fy, rfl, hg, hh, k⟩ := h
    refine ⟨_, (pss_cons (ps_if (pt_val (pe_call (ok_are_apart T) (hr.mono (by omega)) rfl T.m_are_apart T.F_are_apart.kp T.b_are_apart .nil pass0 (pa_cons (pv 0) (pa_cons (pv 1) pa_nil))))
        (pss_one (ps_ret (pe_tup (pa_cons pe_str pa_nil))))
        pss_nil)
      (pss_cons (ps_asg (pe_tup (pa_cons (pv 0) (pa_cons (pv 1) pa_nil))) (pg_tup (by rfl) (pgs_cons (pg_tup (by rfl) (pgs_cons (pg_name (i := 2) sc_meeting_of.nd rfl (Or.inl rfl)) (pgs_cons (pg_name (i := 3) sc_meeting_of.nd rfl (Or.inl rfl)) pgs_nil))) (pgs_cons (pg_tup (by rfl) (pgs_cons (pg_name (i := 4) sc_meeting_of.nd rfl (Or.inl rfl)) (pgs_cons (pg_name (i := 5) sc_meeting_of.nd rfl (Or.inl rfl)) pgs_nil))) pgs_nil))))
      (pss_cons (ps_par (i := 6) (j := 7) (by rfl) sc_meeting_of.nd rfl rfl (by decide) rfl rfl (pa_cons (pe_call (ok_turn_of T) (hr.mono (by omega)) rfl T.m_turn_of T.F_turn_of.kp T.b_turn_of .nil pass0 (pa_cons (pv 4) (pa_cons (pv 5) (pa_cons (pv 2) pa_nil)))) (pa_cons (pe_call (ok_turn_of T) (hr.mono (by omega)) rfl T.m_turn_of T.F_turn_of.kp T.b_turn_of .nil pass0 (pa_cons (pv 4) (pa_cons (pv 5) (pa_cons (pv 3) pa_nil)))) pa_nil)) (by rfl))
      (pss_cons (ps_if (PW.pt (pw_and (pt_cmpR op_eq (pv 6) pe_int (nomark _)) (pw_and1 (pt_cmpR op_eq (pv 7) pe_int (nomark _)))))
        (pss_one (ps_ret (pe_call (ok_meeting_on_line T) (hr.mono (by omega)) rfl T.m_meeting_on_line T.F_meeting_on_line.kp T.b_meeting_on_line .nil pass0 (pa_cons (pv 0) (pa_cons (pv 1) pa_nil)))))
        pss_nil)
      (pss_cons (ps_set (i := 8) sc_meeting_of.nd rfl (Or.inl rfl) (pe_call (ok_common_end T) (hr.mono (by omega)) rfl T.m_common_end T.F_common_end.kp T.b_common_end .nil pass0 (pa_cons (pv 0) (pa_cons (pv 1) pa_nil))))
      (pss_cons (ps_if (pt_cmpR op_notN (pv 8) pe_non (nomark _))
        (pss_one (ps_ret (pe_tup (pa_cons pe_str (pa_cons (pv 8) pa_nil)))))
        pss_nil)
      (pss_cons (ps_if (PW.pt (pw_and (pt_cmpR op_lt (pe_op op_mul (pv 6) (pv 7)) pe_int (nomark _)) (pw_and1 (pt_cmpR op_lt (pe_op op_mul (pe_call (ok_turn_of T) (hr.mono (by omega)) rfl T.m_turn_of T.F_turn_of.kp T.b_turn_of .nil pass0 (pa_cons (pv 2) (pa_cons (pv 3) (pa_cons (pv 4) pa_nil)))) (pe_call (ok_turn_of T) (hr.mono (by omega)) rfl T.m_turn_of T.F_turn_of.kp T.b_turn_of .nil pass0 (pa_cons (pv 2) (pa_cons (pv 3) (pa_cons (pv 5) pa_nil))))) pe_int (nomark _)))))
        (pss_cons (ps_asg (pe_call (ok_cut_point T) (hr.mono (by omega)) rfl T.m_cut_point T.F_cut_point.kp T.b_cut_point .nil pass0 (pa_cons (pv 0) (pa_cons (pv 6) (pa_cons (pv 7) pa_nil)))) (pg_tup (by rfl) (pgs_cons (pg_name (i := 9) sc_meeting_of.nd rfl (Or.inl rfl)) (pgs_cons (pg_name (i := 10) sc_meeting_of.nd rfl (Or.inl rfl)) pgs_nil))))
        (pss_one (ps_ret (pe_tup (pa_cons pe_str (pa_cons (pv 9) (pa_cons (pv 10) pa_nil)))))))
        pss_nil)
      (pss_one (ps_ret (pe_tup (pa_cons pe_str pa_nil))))))))))), ?_⟩
    refine ⟨_, rfl, _, rfl, _, _, _, _, _, _, _, _, _, _, _, _, _, _, rfl, hg, hh, fun H1 e1 => ⟨_, rfl, ifB (fun q => ?_) (fun q => ?_)⟩⟩
    · have z : meetM (ax, ay) (bx, dy) (ex, ey) (fx, fy) = .none := if_pos q
      rw [z] at k
      exact ⟨small rfl, fun p hp => k _ _ (same_then e1 hp) ⟨p, rfl, tHere⟩⟩
    have q : ¬ apartB (ax, ay) (bx, dy) (ex, ey) (fx, fy) = true := by rw [q]; exact Bool.false_ne_true
    have hg := hg.same e1
    have hh := hh.same e1
    refine ⟨_, rfl, _, rfl, small rfl, fun p hp => ?_⟩
    refine ⟨_, _, rfl, tHere, rfl, _, _, rfl, _, _, rfl, tOver hp hg.g, rfl, _, _, rfl, _, _, rfl, rfl, _, _, rfl, _, _, rfl, tOver hp hh.g, rfl, _, _, rfl, _, _, rfl, rfl, rfl, ?_⟩
    
    have hg := hg.same (same_new (o := HO.tup [.ref g, .ref h]) hp)
    have hh := hh.same (same_new (o := HO.tup [.ref g, .ref h]) hp)
    have e2 := same_then e1 (o := HO.tup [.ref g, .ref h]) hp
    generalize upd H1 p (HO.tup [.ref g, .ref h]) = H2 at hg hh e2 ⊢
    have t1 := turn_le hh.oa hh.oc hg.oa
    have t2 := turn_le hh.oa hh.oc hg.oc
    have t3 := turn_le hg.oa hg.oc hh.oa
    refine ⟨_, rfl, _, rfl, _, rfl, _, _, _, _, _, _, _, _, _, rfl, hh.a, hh.c, hg.a, ⟨hh.oa.sx, hh.oc.sx, hh.oa.sy, hh.oc.sy⟩, _, rfl, _, rfl, _, rfl, _, _, _, _, _, _, _, _, _, rfl, hh.a, hh.c, hg.c, ⟨hh.oa.sx, hh.oc.sx, hh.oa.sy, hh.oc.sy⟩, _, _, rfl, ?_⟩
    by_cases z : tn (ex, ey) (fx, fy) (ax, ay) = 0 ∧ tn (ex, ey) (fx, fy) (bx, dy) = 0
    · refine ⟨_, rfl, rfl, _, rfl, ifD (fun _ => ⟨_, rfl, rfl, _, rfl, ifD (fun _ => ?_) (fun y => absurd (congrArg V.int z.2) y)⟩) (fun y => absurd (congrArg V.int z.1) y)⟩
      have w : meetM (ax, ay) (bx, dy) (ex, ey) (fx, fy) = lineM (ax, ay) (bx, dy) (ex, ey) (fx, fy) := by unfold meetM; rw [if_neg q, if_pos z]
      rw [w] at k
      exact ⟨_, rfl, _, rfl, _, _, _, _, _, _, _, _, _, _, _, _, _, _, rfl, hg, hh, fun v H' e => k v H' (e2.trans e)⟩
    refine ⟨_, rfl, rfl, _, rfl, ifD (fun y1 => ⟨_, rfl, rfl, _, rfl, ifD (fun y2 => absurd ⟨int0 y1, int0 y2⟩ z) (fun _ => ?_)⟩) (fun _ => ?_)⟩
    all_goals
      refine ⟨_, rfl, _, rfl, _, _, _, _, _, _, _, _, _, _, _, _, _, _, rfl, hg, hh, fun v hv => ?_⟩
      cases em : endM (ax, ay) (bx, dy) (ex, ey) (fx, fy) with
      | some R =>
        rw [em] at hv
        obtain ⟨r, rfl, hr⟩ := hv
        have w : meetM (ax, ay) (bx, dy) (ex, ey) (fx, fy) = .touch R := by unfold meetM; rw [if_neg q, if_neg z, em]
        rw [w] at k
        exact ⟨_, rfl, rfl, _, rfl, ifND (fun _ => ⟨_, rfl, small rfl, fun p hp => k _ _ (same_then e2 hp) ⟨p, r, rfl, tHere, tOver hp hr⟩⟩) (fun y => by cases y)⟩
      | none =>
        rw [em] at hv
        have hv : v = V.non := hv
        subst hv
        refine ⟨_, rfl, rfl, _, rfl, ifND (fun y => absurd rfl y) (fun _ => ?_)⟩
        have w : meetM (ax, ay) (bx, dy) (ex, ey) (fx, fy) = if tn (ex, ey) (fx, fy) (ax, ay) * tn (ex, ey) (fx, fy) (bx, dy) < 0 ∧ tn (ax, ay) (bx, dy) (ex, ey) * tn (ax, ay) (bx, dy) (fx, fy) < 0 then cross (ax, ay) (bx, dy) (tn (ex, ey) (fx, fy) (ax, ay)) (tn (ex, ey) (fx, fy) (bx, dy)) else .none := by unfold meetM; rw [if_neg q, if_neg z, em]
        rw [w] at k
        by_cases y : tn (ex, ey) (fx, fy) (ax, ay) * tn (ex, ey) (fx, fy) (bx, dy) < 0 ∧ tn (ax, ay) (bx, dy) (ex, ey) * tn (ax, ay) (bx, dy) (fx, fy) < 0
        · rw [if_pos y] at k
          refine ⟨_, rfl, _, rfl, _, _, rfl, rfl, .inl (m64 t1), _, _, rfl, rfl, _, rfl, ifD (fun _ => ?_) (fun n => absurd y.1 n)⟩
          refine ⟨_, rfl, _, rfl, _, rfl, _, _, _, _, _, _, _, _, _, rfl, hg.a, hg.c, hh.a, ⟨hg.oa.sx, hg.oc.sx, hg.oa.sy, hg.oc.sy⟩, _, rfl, _, rfl, _, rfl, _, _, _, _, _, _, _, _, _, rfl, hg.a, hg.c, hh.c, ⟨hg.oa.sx, hg.oc.sx, hg.oa.sy, hg.oc.sy⟩, _, _, rfl, rfl, .inl (m64 t3), _, _, rfl, rfl, _, rfl, ifD (fun _ => ?_) (fun n => absurd y.2 n)⟩
          have hw : turnI ex ey fx fy ax ay - turnI ex ey fx fy bx dy ≠ 0 := by
            have := neg_signs y.1
            unfold tn at this
            dsimp only at this
            omega
          refine ⟨_, rfl, _, rfl, _, rfl, _, _, _, _, _, _, _, _, _, rfl, hg, hw, t1, t2, fun p1 q1 r1 H3 e3 hp1 hq1 hr1 => ?_⟩
          refine ⟨_, _, rfl, hp1, rfl, _, _, rfl, _, _, rfl, rfl, ?_⟩
          exact ⟨_, rfl, _, rfl, small rfl, fun t ht => k _ _ (same_then (e2.trans e3) ht) ⟨t, q1, r1, rfl, tHere, tOver ht hq1, tOver ht hr1⟩⟩
        · rw [if_neg y] at k
          refine ⟨_, rfl, _, rfl, _, _, rfl, rfl, .inl (m64 t1), _, _, rfl, rfl, _, rfl, ifD (fun n1 => ?_) (fun _ => ?_)⟩
          · refine ⟨_, rfl, _, rfl, _, rfl, _, _, _, _, _, _, _, _, _, rfl, hg.a, hg.c, hh.a, ⟨hg.oa.sx, hg.oc.sx, hg.oa.sy, hg.oc.sy⟩, _, rfl, _, rfl, _, rfl, _, _, _, _, _, _, _, _, _, rfl, hg.a, hg.c, hh.c, ⟨hg.oa.sx, hg.oc.sx, hg.oa.sy, hg.oc.sy⟩, _, _, rfl, rfl, .inl (m64 t3), _, _, rfl, rfl, _, rfl, ifD (fun n2 => absurd ⟨n1, n2⟩ y) (fun _ => ?_)⟩
            exact ⟨small rfl, fun p hp => k _ _ (same_then e2 hp) ⟨p, rfl, tHere⟩⟩
          · exact ⟨small rfl, fun p hp => k _ _ (same_then e2 hp) ⟨p, rfl, tHere⟩⟩

theorem ok_meeting (T : Txt K mg) : FnOk P w K mg base CX0 5 T.a_meeting T.d_meeting ["first", "second"] (fun vs H Q _ => ∃ (g a c h e f : Addr) (ax ay bx dy ex ey fx fy : Int), vs = [.ref g, .ref h] ∧ SegAt K H g a c ax ay bx dy ∧ SegAt K H h e f ex ey fx fy ∧ ∀ v H', Same H H' → MtAt K H' v (meetM (ax, ay) (bx, dy) (ex, ey) (fx, fy)) → Q v H') := by
  refine T.F_meeting.ok sc_meeting (fun vs H Q E h => ?_) (fun cdv A outer s H vs Q E hr h => ?_)
  · obtain ⟨g, a, c, h, e, f, ax, ay, bx, dy, ex, ey, fx, fy, rfl, hg, hh, k⟩ := h
    rfl
  · obtain ⟨g, a, c, h, e, f, ax, ay, bx, dy, ex, ey, fx, fy, rfl, hg, hh, k⟩ := h
    refine ⟨_, (pss_cons (ps_expr (pe_call (ok_need T) (hr.mono (by omega)) rfl T.m_need T.F_need.kp T.b_need .nil pass0 (pa_cons (pe_call (ok_is_segment T) (hr.mono (by omega)) rfl T.m_is_segment T.F_is_segment.kp T.b_is_segment .nil pass0 (pa_cons (pv 0) pa_nil)) (pa_cons pe_str pa_nil))))
      (pss_cons (ps_expr (pe_call (ok_need T) (hr.mono (by omega)) rfl T.m_need T.F_need.kp T.b_need .nil pass0 (pa_cons (pe_call (ok_is_segment T) (hr.mono (by omega)) rfl T.m_is_segment T.F_is_segment.kp T.b_is_segment .nil pass0 (pa_cons (pv 1) pa_nil)) (pa_cons pe_str pa_nil))))
      (pss_one (ps_ret (pe_call (ok_meeting_of T) (hr.mono (by omega)) rfl T.m_meeting_of T.F_meeting_of.kp T.b_meeting_of .nil pass0 (pa_cons (pv 0) (pa_cons (pv 1) pa_nil))))))), ?_⟩
    refine ⟨_, rfl, _, _, _, _, _, _, _, rfl, hg, _, _, rfl, rfl, ?_⟩
    refine ⟨_, rfl, _, _, _, _, _, _, _, rfl, hh, _, _, rfl, rfl, ?_⟩
    exact ⟨_, rfl, _, rfl, _, _, _, _, _, _, _, _, _, _, _, _, _, _, rfl, hg, hh, k⟩

theorem ok__law_stream (T : Txt K mg) : FnOk P w K mg base CX0 1 T.a__law_stream T.d__law_stream ["script"] (fun vs H Q _ => ∃ (a : Addr) (ns : List Int), vs = [.ref a] ∧ SqL K H a (ns.map V.int) ∧ ∀ H' s b, Same H H' → H s = none → Strm H' s b → Q (.ref s) H') := by
  refine T.F__law_stream.ok sc__law_stream (fun vs H Q E h => ?_) (fun cdv A outer s H vs Q E hr h => ?_)
  · obtain ⟨a, ns, rfl, hS, k⟩ := h
    rfl
  · obtain ⟨a, ns, rfl, hS, k⟩ := h
    refine ⟨_, (pss_one (ps_ret (pe_lst (pa_cons (pe_callTy call_list_of (by rfl) T.n_list (by decide +kernel) (pa_cons (pv 0) pa_nil)) (pa_cons pe_int (pa_cons pe_int pa_nil)))))), ?_⟩
    refine ⟨_, rfl, _, _, rfl, .inl hS, fun b hb => ⟨small rfl, fun s hs => ?_⟩⟩
    have hs' := hs
    have nb : s ≠ b := fun e => by rw [e, upd_same] at hs'; cases hs'
    rw [upd_ne nb] at hs'
    exact k _ s b (same_then (same_new hb) hs) hs' ⟨ns, 0, 0, by rw [upd_ne nb.symm, upd_same], upd_same, by decide, by decide⟩

theorem ok__law_next (T : Txt K mg) : FnOk P w K mg base CX0 1 T.a__law_next T.d__law_next ["stream", "many"] (fun vs H Q _ => ∃ (s : Addr) (m : Int) (b : Addr), vs = [.ref s, .int m] ∧ 0 < m ∧ m < 2 ^ 200 ∧ Strm H s b ∧ ∀ (d : Int) H', 0 ≤ d → d < m → Strm H' s b → But s H H' → Q (.int d) H') := by
  refine T.F__law_next.ok sc__law_next (fun vs H Q E h => ?_) (fun cdv A outer s H vs Q E hr h => ?_)
  · obtain ⟨s, m, b, rfl, m0, m1, S, k⟩ := h
    rfl
  · obtain ⟨s, m, b, rfl, m0, m1, S, k⟩ := h
    refine ⟨_, (C8.pss_cut (ps_if (pt_cmpR op_eq (pe_ix (r := rIxL K) ix_list (pv 0) pe_int (fun _ _ => rfl)) pe_int (nomark _))
        (pss_cons (ps_set (i := 2) sc__law_next.nd rfl (Or.inl rfl) (pe_ix (r := rIxL K) ix_list (pv 0) pe_int (fun _ _ => rfl)))
        (pss_cons (ps_set (i := 3) sc__law_next.nd rfl (Or.inl rfl) (pe_op op_add pe_int (pv 2)))
        (C8.pss_cut (ps_if (pt_cmpR op_lt (pv 2) (pe_callB call_len (by rfl) T.n_len (by decide +kernel) (pa_cons (pe_ix (r := rIxL K) ix_list (pv 0) pe_int (fun _ _ => rfl)) pa_nil)) (nomark _))
          (pss_one (ps_set (i := 3) sc__law_next.nd rfl (Or.inl rfl) (pe_callB call_abs (by rfl) T.n_abs (by decide +kernel) (pa_cons (pe_ix (r := rIxL K) ix_list (pe_ix (r := rIxL K) ix_list (pv 0) pe_int (fun _ _ => rfl)) (pv 2) (fun _ _ => rfl)) pa_nil))))
          pss_nil)
        (C8.pss_cut (ps_if (pt_cmpR op_lt (pv 3) (pe_op op_pow pe_int pe_int) (nomark _))
          (pss_cons (ps_set (i := 3) sc__law_next.nd rfl (Or.inl rfl) (pe_op op_modN (pe_callTy call_int1 (by rfl) T.n_int (by decide +kernel) (pa_cons (pe_op op_add (pe_op op_add (pe_op op_mul (pv 3) pe_int) (pe_op op_mul (pv 2) pe_int)) pe_int) pa_nil)) pe_int))
          (pss_one (ps_set (i := 3) sc__law_next.nd rfl (Or.inl rfl) (pe_op op_add (pe_op op_mul (pe_op op_modN (pe_callTy call_int1 (by rfl) T.n_int (by decide +kernel) (pa_cons (pe_op op_add (pe_op op_mul (pv 3) pe_int) pe_int) pa_nil)) pe_int) pe_int) (pv 3)))))
          pss_nil)
        (pss_cons (ps_asg (pv 3) (pg_sub (pv 0) pe_int set_list))
        (pss_one (ps_asg (pe_op op_add (pv 2) pe_int) (pg_sub (pv 0) pe_int set_list))))))))
        pss_nil)
      (pss_cons (ps_set (i := 4) sc__law_next.nd rfl (Or.inl rfl) (pe_op op_modN (pe_callTy call_int1 (by rfl) T.n_int (by decide +kernel) (pa_cons (pe_ix (r := rIxL K) ix_list (pv 0) pe_int (fun _ _ => rfl)) pa_nil)) (pv 1)))
      (pss_cons (ps_asg (pe_op op_fdivW (pe_ix (r := rIxL K) ix_list (pv 0) pe_int (fun _ _ => rfl)) (pv 1)) (pg_sub (pv 0) pe_int set_list))
      (pss_one (ps_ret (pv 4)))))), ?_⟩
    obtain ⟨ns, c, kk, hb, hs, c0, k0⟩ := S
    have nbs : b ≠ s := Strm.ne hb hs
    refine ⟨fun σ' H' => ∃ (c kk : Int) (o1 o2 : Option V), σ' = [some (.ref s), some (.int m), o1, o2, none] ∧ H' b = some (.lst (ns.map V.int)) ∧ H' s = some (.lst [.ref b, .int c, .int kk]) ∧ 0 ≤ c ∧ 0 ≤ kk ∧ But s H H', ?_, ?_⟩
    rotate_left
    · rintro σ' H1 ⟨c, kk, o1, o2, rfl, hb, hs, c0, k0, hB⟩
      refine ⟨_, rfl, _, _, _, _, rfl, rfl, SqL.of hs, at1, .inl ⟨_, rfl, _, rfl, _, _, rfl, rfl, by omega, ?_⟩⟩
      refine ⟨_, rfl, _, _, _, _, rfl, rfl, SqL.of hs, at1, _, rfl, _, _, rfl, rfl, wide_div (b := 200) m0 (by omega) (by decide) (by decide), _, rfl, _, _, _, 1, rfl, rfl, hs, rfl, ?_⟩
      refine ⟨_, rfl, ?_⟩
      exact k _ _ (fmod_ge m0) (fmod_lt m0) ⟨ns, c / m, kk, by rw [upd_ne nbs]; exact hb, upd_same, div_ge c0 m0, k0⟩ hB.then_at
    refine ⟨_, rfl, _, _, _, _, rfl, rfl, SqL.of hs, at1, rfl, _, rfl, ?_⟩
    refine ifD (fun e => ?_) (fun e => ⟨c, kk, none, none, rfl, hb, hs, c0, k0, But.refl⟩)
    refine ⟨_, rfl, _, _, _, _, rfl, rfl, SqL.of hs, at2, _, rfl, _, _, rfl, rfl, ?_⟩
    -- if k < len(stream[0])
    have mid : ∀ (cell : Int) (t u : TS) (D : Ends) (σ : St) (H1 : Hp), t { D with nx := fun σ' H' => ∃ cell : Int, σ' = [some (.ref s), some (.int m), some (.int kk), some (.int cell), none] ∧ H' = H ∧ 0 ≤ cell } σ H1 → (∀ cell : Int, 0 ≤ cell → u D [some (.ref s), some (.int m), some (.int kk), some (.int cell), none] H) → C8.tCut t u D σ H1 := by
      intro _ t u D σ H1 h1 h2
      exact ⟨_, h1, fun σ' H' ⟨cell, e1, e2, e3⟩ => by rw [e1, e2]; exact h2 cell e3⟩
    refine mid 0 _ _ _ _ _ ?_ fun cell p0 => mid 0 _ _ _ _ _ ?_ fun cell p0 => ?_
    · refine ⟨_, rfl, _, rfl, _, _, _, _, rfl, rfl, SqL.of hs, at0, _, _, rfl, .inl ⟨_, SqL.of hb, rfl⟩, _, _, rfl, rfl, _, rfl, ?_⟩
      refine ifD (fun e => ?_) (fun e => ⟨_, rfl, rfl, by omega⟩)
      have hk : kk.toNat < ns.length := by rw [List.length_map] at e; omega
      refine ⟨_, rfl, _, _, _, _, rfl, rfl, SqL.of hs, at0, _, rfl, _, _, kk, _, rfl, rfl, SqL.of hb, at_of (j := kk.toNat) (v := V.int ns[kk.toNat]) (by omega) (by rw [List.getElem?_map, List.getElem?_eq_getElem hk]; rfl), _, rfl, ?_⟩
      exact ⟨_, rfl, rfl, by split <;> omega⟩
    · refine ⟨_, rfl, _, _, rfl, rfl, ⟨by decide, by decide, by decide⟩, _, _, rfl, rfl, _, rfl, ?_⟩
      refine ifD (fun e => ?_) (fun e => ⟨_, rfl, rfl, p0⟩)
      refine ⟨_, rfl, _, _, rfl, rfl, .inr ⟨by decide, by decide⟩, _, rfl, _, _, rfl, rfl, .inr ⟨by decide, by decide⟩, _, _, rfl, rfl, _, _, rfl, rfl, .inl ⟨_, rfl, _, _, rfl, rfl, show (2147483647 : Int) ≠ 0 by decide, ?_⟩⟩
      have q0 := fmod_ge (a := cell * 48271 + kk * 69621 + 11) (m := 2147483647) (by decide)
      refine ⟨_, rfl, _, _, rfl, rfl, .inr ⟨by decide, by decide⟩, _, _, rfl, rfl, .inl ⟨_, rfl, _, _, rfl, rfl, show (2147483647 : Int) ≠ 0 by decide, _, _, rfl, rfl, .inr ⟨by decide, by decide⟩, _, rfl, _, _, rfl, rfl, ?_⟩⟩
      have q1 := fmod_ge (a := (cell * 48271 + kk * 69621 + 11).fmod 2147483647 * 16807 + 13) (m := 2147483647) (by decide)
      exact ⟨_, rfl, rfl, by omega⟩
    refine ⟨_, rfl, _, rfl, _, _, _, 1, rfl, rfl, hs, rfl, ?_⟩
    refine ⟨_, rfl, _, _, rfl, rfl, _, rfl, _, _, _, 2, rfl, rfl, upd_same, rfl, ?_⟩
    exact ⟨cell, kk + 1, _, _, rfl, by rw [upd_ne nbs, upd_ne nbs]; exact hb, upd_same, p0, by omega, But.at.then_at⟩

theorem ok__law_is_integer (T : Txt K mg) : FnOk P w K mg base CX0 1 T.a__law_is_integer T.d__law_is_integer ["actual"] (fun vs H Q _ => ∃ x n, vs = [x] ∧ Ty K H x n ∧ Q (.bl (n == "int")) H) := by
  refine T.F__law_is_integer.ok sc__law_is_integer (fun vs H Q E h => ?_) (fun cdv A outer s H vs Q E hr h => ?_)
  · obtain ⟨x, n, rfl, hx, k⟩ := h
    rfl
  · obtain ⟨x, n, rfl, hx, k⟩ := h
    refine ⟨_, (pss_one (ps_ret (pe_and (pe_callB call_isi (by rfl) T.n_isinstance (by decide +kernel) (pa_cons (pv 0) (pa_cons (pe_bltn (v := .ty "int") (by rfl) T.n_int (by decide +kernel) rfl) pa_nil))) (pe_one (pe_not (pe_callB call_isi (by rfl) T.n_isinstance (by decide +kernel) (pa_cons (pv 0) (pa_cons (pe_bltn (v := .ty "bool") (by rfl) T.n_bool (by decide +kernel) rfl) pa_nil)))))))), ?_⟩
    refine ⟨_, rfl, ⟨_, _, _, _, _, rfl, .ty _, (hx).x, isaN (Ty.six hx) (by simp [My.six]), ⟨_, rfl, ?_⟩⟩⟩
    cases hx
    all_goals first | (refine ifTr (by decide) ?_) | (refine ifFa (by decide) ?_; exact k)
    · exact ⟨_, rfl, ⟨_, _, _, _, _, rfl, .ty _, ((Ty.bl _)).x, isaN (by simp [My.six]) (by simp [My.six]), ⟨_, rfl, k⟩⟩⟩
    · exact ⟨_, rfl, ⟨_, _, _, _, _, rfl, .ty _, ((Ty.int _)).x, isaN (by simp [My.six]) (by simp [My.six]), ⟨_, rfl, k⟩⟩⟩

theorem ok__law_gcd (T : Txt K mg) : FnOk P w K mg base CX0 1 T.a__law_gcd T.d__law_gcd ["a", "b"] (fun vs H Q _ => ∃ n d : Int, vs = [.int n, .int d] ∧ n.natAbs ≤ 2 ^ 200 ∧ d.natAbs ≤ 2 ^ 200 ∧ Q (.int (Nat.gcd n.natAbs d.natAbs : Nat)) H) := by
  refine T.F__law_gcd.ok sc__law_gcd (fun vs H Q E h => ?_) (fun cdv A outer s H vs Q E hr h => ?_)
  · obtain ⟨n, d, rfl, h1, h2, k⟩ := h
    rfl
  · obtain ⟨n, d, rfl, h1, h2, k⟩ := h
    refine ⟨_, (pss_cons (ps_set (i := 0) sc__law_gcd.nd rfl (Or.inl rfl) (pe_callB call_abs (by rfl) T.n_abs (by decide +kernel) (pa_cons (pv 0) pa_nil)))
      (pss_cons (ps_set (i := 1) sc__law_gcd.nd rfl (Or.inl rfl) (pe_callB call_abs (by rfl) T.n_abs (by decide +kernel) (pa_cons (pv 1) pa_nil)))
      (pss_cons (ps_for PassesOwn.never rfl (pi_range1 rfl T.n_range (pa_cons pe_int pa_nil)) (pg_name (i := 2) sc__law_gcd.nd rfl (Or.inl rfl))
        (pss_cons (ps_if (pt_cmpR op_eq (pv 1) pe_int (nomark _))
          (pss_one ps_break)
          pss_nil)
        (pss_one (ps_par (i := 0) (j := 1) (by rfl) sc__law_gcd.nd rfl rfl (by decide) rfl rfl (pa_cons (pv 1) (pa_cons (pe_op op_modN (pe_callTy call_int1 (by rfl) T.n_int (by decide +kernel) (pa_cons (pv 0) pa_nil)) (pv 1)) pa_nil)) (by rfl)))))
      (pss_one (ps_ret (pv 0)))))), ?_⟩
    refine ⟨_, rfl, _, rfl, ?_⟩
    refine ⟨_, rfl, _, rfl, ?_⟩
    refine ⟨40000, rfl, by decide, by decide, for_range (lo := 0) (n := 40000) (fun i σ H' => H' = H ∧ ∃ (x y : Nat) (v : Option V), σ = [some (.int x), some (.int y), v] ∧ GI n.natAbs d.natAbs (2 ^ 200) i x y) ⟨rfl, n.natAbs, d.natAbs, none, by rw [← abs_nat n, ← abs_nat d]; rfl, GI.start h1 h2⟩ ?_ ?_⟩
    · rintro i σ H' hi ⟨rfl, x, y, v, rfl, g⟩
      refine ⟨_, rfl, rfl, _, rfl, ifD (fun e => ?_) (fun e => ?_)⟩
      · have y0 : y = 0 := by injection e with e; omega
        subst y0
        refine ⟨_, rfl, ?_⟩
        rw [← g.g, Nat.gcd_zero_right] at k
        exact k
      · have y0 : 0 < y := by
          rcases Nat.eq_zero_or_pos y with z | z
          · rw [z] at e; exact absurd rfl e
          · exact z
        refine ⟨_, rfl, _, rfl, .inl ⟨_, rfl, _, rfl, _, _, rfl, rfl, show ((y : Nat) : Int) ≠ 0 by omega, _, _, rfl, ?_⟩⟩
        exact ⟨rfl, y, x % y, _, by rw [← fmod_nat]; rfl, g.step y0⟩
    · rintro σ H' ⟨rfl, x, y, v, rfl, g⟩
      have y0 := g.done (by decide)
      subst y0
      refine ⟨_, rfl, ?_⟩
      rw [← g.g, Nat.gcd_zero_right] at k
      exact k

theorem ok__law_low (T : Txt K mg) : FnOk P w K mg base CX0 2 T.a__law_low T.d__law_low ["n", "d"] (fun vs H Q _ => ∃ n d : Int, vs = [.int n, .int d] ∧ d ≠ 0 ∧ n.natAbs ≤ 2 ^ 200 ∧ d.natAbs ≤ 2 ^ 200 ∧ ∀ p, H p = none → Q (.ref p) (upd H p (.tup [.int (lowN n d), .int (lowD n d)]))) := by
  refine T.F__law_low.ok sc__law_low (fun vs H Q E h => ?_) (fun cdv A outer s H vs Q E hr h => ?_)
  · obtain ⟨n, d, rfl, d0, h1, h2, k⟩ := h
    rfl
  · obtain ⟨n, d, rfl, d0, h1, h2, k⟩ := h
    refine ⟨_, (pss_cons (ps_set (i := 2) sc__law_low.nd rfl (Or.inl rfl) (pe_call (ok__law_gcd T) (hr.mono (by omega)) rfl T.m__law_gcd T.F__law_gcd.kp T.b__law_gcd .nil pass0 (pa_cons (pv 0) (pa_cons (pv 1) pa_nil))))
      (C8.pss_cut (ps_if (pt_cmpR op_lt (pv 1) pe_int (nomark _))
        (pss_one (ps_set (i := 2) sc__law_low.nd rfl (Or.inl rfl) (pe_op op_sub pe_int (pv 2))))
        pss_nil)
      (pss_one (ps_ret (pe_tup (pa_cons (pe_op op_fdivV (pv 0) (pv 2)) (pa_cons (pe_op op_fdivV (pv 1) (pv 2)) pa_nil))))))), ?_⟩
    refine ⟨_, rfl, _, rfl, _, _, rfl, h1, h2, ?_⟩
    have hb := Nat.le_trans (sgcd_le (n := n) d0) h2
    refine ⟨fun σ' H' => H' = H ∧ σ' = [some (.int n), some (.int d), some (.int (sgcd n d))], ?_, ?_⟩
    · refine ⟨_, rfl, _, _, rfl, rfl, _, rfl, ifD (fun e => ?_) (fun e => ?_)⟩
      · refine ⟨_, rfl, _, _, rfl, rfl, ?_⟩
        exact ⟨rfl, by rw [sgcd, if_pos e]; rfl⟩
      · exact ⟨rfl, by rw [sgcd, if_neg e]; rfl⟩
    · rintro σ' H' ⟨rfl, rfl⟩
      exact ⟨_, rfl, _, rfl, _, _, rfl, rfl, ⟨sgcd_ne d0, pow200 hb⟩, _, rfl, _, rfl, _, _, rfl, rfl, ⟨sgcd_ne d0, pow200 hb⟩, small rfl, fun p hp => k p hp⟩

theorem ok__law_plus (T : Txt K mg) : FnOk P w K mg base CX0 3 T.a__law_plus T.d__law_plus ["a", "b"] (fun vs H Q _ => ∃ (a b : Addr) (n d m e : Int), vs = [.ref a, .ref b] ∧ SqT K H a [.int n, .int d] ∧ SqT K H b [.int m, .int e] ∧ d ≠ 0 ∧ e ≠ 0 ∧ n.natAbs ≤ 2 ^ 80 ∧ d.natAbs ≤ 2 ^ 80 ∧ m.natAbs ≤ 2 ^ 80 ∧ e.natAbs ≤ 2 ^ 80 ∧ ∀ p, H p = none → Q (.ref p) (upd H p (.tup [.int (lowN (n * e + m * d) (d * e)), .int (lowD (n * e + m * d) (d * e))]))) := by
  refine T.F__law_plus.ok sc__law_plus (fun vs H Q E h => ?_) (fun cdv A outer s H vs Q E hr h => ?_)
  · obtain ⟨a, b, n, d, m, e, rfl, ha, hb, zd, ze, b1, b2, b3, b4, k⟩ := h
    rfl
  · obtain ⟨a, b, n, d, m, e, rfl, ha, hb, zd, ze, b1, b2, b3, b4, k⟩ := h
    refine ⟨_, (pss_one (ps_ret (pe_call (ok__law_low T) (hr.mono (by omega)) rfl T.m__law_low T.F__law_low.kp T.b__law_low .nil pass0 (pa_cons (pe_op op_add (pe_op op_mulW (pe_ix (r := rIxT K) ix_tup (pv 0) pe_int (fun _ _ => rfl)) (pe_ix (r := rIxT K) ix_tup (pv 1) pe_int (fun _ _ => rfl))) (pe_op op_mulW (pe_ix (r := rIxT K) ix_tup (pv 1) pe_int (fun _ _ => rfl)) (pe_ix (r := rIxT K) ix_tup (pv 0) pe_int (fun _ _ => rfl)))) (pa_cons (pe_op op_mulW (pe_ix (r := rIxT K) ix_tup (pv 0) pe_int (fun _ _ => rfl)) (pe_ix (r := rIxT K) ix_tup (pv 1) pe_int (fun _ _ => rfl))) pa_nil))))), ?_⟩
    exact ⟨_, rfl, _, _, _, _, rfl, rfl, ha, at0, _, rfl, _, _, _, _, rfl, rfl, hb, at1, _, _, rfl, rfl, wide b1 b4, _, rfl, _, _, _, _, rfl, rfl, hb, at0, _, rfl, _, _, _, _, rfl, rfl, ha, at1, _, _, rfl, rfl, wide b3 b2, _, _, rfl, rfl, _, rfl, _, _, _, _, rfl, rfl, ha, at1, _, rfl, _, _, _, _, rfl, rfl, hb, at1, _, _, rfl, rfl, wide b2 b4, _, _, rfl, Int.mul_ne_zero zd ze, pow_up (add_le (mul_le b1 b4) (mul_le b3 b2)), pow_up (mul_le b2 b4), fun p hp => k p hp⟩

theorem ok__law_times (T : Txt K mg) : FnOk P w K mg base CX0 3 T.a__law_times T.d__law_times ["a", "b"] (fun vs H Q _ => ∃ (a b : Addr) (n d m e : Int), vs = [.ref a, .ref b] ∧ SqT K H a [.int n, .int d] ∧ SqT K H b [.int m, .int e] ∧ d ≠ 0 ∧ e ≠ 0 ∧ n.natAbs ≤ 2 ^ 80 ∧ d.natAbs ≤ 2 ^ 80 ∧ m.natAbs ≤ 2 ^ 80 ∧ e.natAbs ≤ 2 ^ 80 ∧ ∀ p, H p = none → Q (.ref p) (upd H p (.tup [.int (lowN (n * m) (d * e)), .int (lowD (n * m) (d * e))]))) := by
  refine T.F__law_times.ok sc__law_times (fun vs H Q E h => ?_) (fun cdv A outer s H vs Q E hr h => ?_)
  · obtain ⟨a, b, n, d, m, e, rfl, ha, hb, zd, ze, b1, b2, b3, b4, k⟩ := h
    rfl
  · obtain ⟨a, b, n, d, m, e, rfl, ha, hb, zd, ze, b1, b2, b3, b4, k⟩ := h
    refine ⟨_, (pss_one (ps_ret (pe_call (ok__law_low T) (hr.mono (by omega)) rfl T.m__law_low T.F__law_low.kp T.b__law_low .nil pass0 (pa_cons (pe_op op_mulW (pe_ix (r := rIxT K) ix_tup (pv 0) pe_int (fun _ _ => rfl)) (pe_ix (r := rIxT K) ix_tup (pv 1) pe_int (fun _ _ => rfl))) (pa_cons (pe_op op_mulW (pe_ix (r := rIxT K) ix_tup (pv 0) pe_int (fun _ _ => rfl)) (pe_ix (r := rIxT K) ix_tup (pv 1) pe_int (fun _ _ => rfl))) pa_nil))))), ?_⟩
    exact ⟨_, rfl, _, _, _, _, rfl, rfl, ha, at0, _, rfl, _, _, _, _, rfl, rfl, hb, at0, _, _, rfl, rfl, wide b1 b3, _, rfl, _, _, _, _, rfl, rfl, ha, at1, _, rfl, _, _, _, _, rfl, rfl, hb, at1, _, _, rfl, rfl, wide b2 b4, _, _, rfl, Int.mul_ne_zero zd ze, pow_up (mul_le b1 b3), pow_up (mul_le b2 b4), fun p hp => k p hp⟩


def spEq (K : PySem.W.Frag) (n : Nat) : Sp := fun vs H Q _ => ∃ x y, vs = [x, y] ∧ Dq K H n x y ∧ ∀ H', Same H H' → Q (.bl true) H'
theorem ok__law_equal (T : Txt K mg) : ∀ n : Nat, FnOk P w K mg base CX0 (n + 1) T.a__law_equal T.d__law_equal ["actual", "due"] (spEq K n)
  | 0 => T.F__law_equal.ok sc__law_equal (fun vs H Q E h => by obtain ⟨x, y, rfl, hd, _⟩ := h; cases hd) (fun cdv A outer s H vs Q E hr h => by obtain ⟨x, y, rfl, hd, _⟩ := h; cases hd)
  | n + 1 => by
    have ih : FnOk P w K mg base CX0 (n + 1) T.a__law_equal T.d__law_equal ["actual", "due"] (spEq K n) := ok__law_equal T n
    refine T.F__law_equal.ok sc__law_equal (fun vs H Q E h => ?_) (fun cdv A outer s H vs Q E hr h => ?_)
    · obtain ⟨x, y, rfl, _⟩ := h
      rfl
    · obtain ⟨x, y, rfl, hd, k⟩ := h
      refine ⟨_, (pss_cons (ps_if (pt_cmpR op_isN (pv 1) pe_non (nomark _))
        (pss_one (ps_ret (pe_cmpR op_isN (pv 0) pe_non (nomark _))))
        pss_nil)
      (pss_cons (ps_if (pt_val (pe_callB call_isi (by rfl) T.n_isinstance (by decide +kernel) (pa_cons (pv 1) (pa_cons (pe_bltn (v := .ty "bool") (by rfl) T.n_bool (by decide +kernel) rfl) pa_nil))))
        (pss_one (ps_ret (pe_and (pe_callB call_isi (by rfl) T.n_isinstance (by decide +kernel) (pa_cons (pv 0) (pa_cons (pe_bltn (v := .ty "bool") (by rfl) T.n_bool (by decide +kernel) rfl) pa_nil))) (pe_one (pe_cmpR op_eq (pv 0) (pv 1) (nomark _))))))
        pss_nil)
      (pss_cons (ps_if (pt_val (pe_callB call_isi (by rfl) T.n_isinstance (by decide +kernel) (pa_cons (pv 1) (pa_cons (pe_bltn (v := .ty "int") (by rfl) T.n_int (by decide +kernel) rfl) pa_nil))))
        (pss_one (ps_ret (pe_and (pe_call (ok__law_is_integer T) (hr.mono (by omega)) rfl T.m__law_is_integer T.F__law_is_integer.kp T.b__law_is_integer .nil pass0 (pa_cons (pv 0) pa_nil)) (pe_one (pe_cmpR op_eq (pv 0) (pv 1) (nomark _))))))
        pss_nil)
      (pss_cons (ps_if (pt_val (pe_callB call_isi (by rfl) T.n_isinstance (by decide +kernel) (pa_cons (pv 1) (pa_cons (pe_bltn (v := .ty "str") (by rfl) T.n_str (by decide +kernel) rfl) pa_nil))))
        (pss_one (ps_ret (pe_and (pe_callB call_isi (by rfl) T.n_isinstance (by decide +kernel) (pa_cons (pv 0) (pa_cons (pe_bltn (v := .ty "str") (by rfl) T.n_str (by decide +kernel) rfl) pa_nil))) (pe_one (pe_cmpR op_eq (pv 0) (pv 1) (nomark _))))))
        pss_nil)
      (pss_cons (ps_if (PW.pt (pw_and (pt_val (pe_callB call_isi (by rfl) T.n_isinstance (by decide +kernel) (pa_cons (pv 1) (pa_cons (pe_bltn (v := .ty "tuple") (by rfl) T.n_tuple (by decide +kernel) rfl) pa_nil)))) (pw_and1 (pt_not (pt_val (pe_callB call_isi (by rfl) T.n_isinstance (by decide +kernel) (pa_cons (pv 0) (pa_cons (pe_bltn (v := .ty "tuple") (by rfl) T.n_tuple (by decide +kernel) rfl) pa_nil))))))))
        (pss_one (ps_ret pe_bl))
        pss_nil)
      (pss_cons (ps_if (PW.pt (pw_and (pt_val (pe_callB call_isi (by rfl) T.n_isinstance (by decide +kernel) (pa_cons (pv 1) (pa_cons (pe_bltn (v := .ty "list") (by rfl) T.n_list (by decide +kernel) rfl) pa_nil)))) (pw_and1 (pt_not (pt_val (pe_callB call_isi (by rfl) T.n_isinstance (by decide +kernel) (pa_cons (pv 0) (pa_cons (pe_bltn (v := .ty "list") (by rfl) T.n_list (by decide +kernel) rfl) pa_nil))))))))
        (pss_one (ps_ret pe_bl))
        pss_nil)
      (pss_cons (ps_if (pt_cmpR op_ne (pe_callB call_len (by rfl) T.n_len (by decide +kernel) (pa_cons (pv 0) pa_nil)) (pe_callB call_len (by rfl) T.n_len (by decide +kernel) (pa_cons (pv 1) pa_nil)) (nomark _))
        (pss_one (ps_ret pe_bl))
        pss_nil)
      (pss_one (ps_ret (pe_callB (cr_all rfl) (by rfl) T.n_all (by decide +kernel) (pa_cons (pe_lc (own := [("at", 2)]) (g := gName 2) (tt := tYes) rfl sc__law_equal.nd (pi_range1 rfl T.n_range (pa_cons (pe_callB call_len (by rfl) T.n_len (by decide +kernel) (pa_cons (pv 1) pa_nil)) pa_nil)) (blkOk_by (own := [("at", 2)]) (N := N__law_equal) (sc := defScope s__law_equal) (by decide +kernel)) (fun _ _ _ _ _ => pg_name (i := 2) sc__law_equal.nd rfl (Or.inl rfl)) (fun _ _ _ _ _ => pts_nil) (fun _ _ _ _ _ => (pe_call ih (hr.mono (by omega)) rfl T.m__law_equal T.F__law_equal.kp T.b__law_equal .nil pass0 (pa_cons (pe_ix (r := rIx K) ix_seq (pv 0) (pv 2) (fun _ _ => rfl)) (pa_cons (pe_ix (r := rIx K) ix_seq (pv 1) (pv 2) (fun _ _ => rfl)) pa_nil))))) pa_nil))))))))))), ?_⟩
      cases hd with
      | non => exact ⟨_, rfl, rfl, _, rfl, ifD (fun _ => ⟨_, rfl, rfl, by rw [decide_eq_true rfl]; exact k _ (Same.refl _)⟩) (fun e => absurd rfl e)⟩
      | bl _ b =>
        refine ⟨_, rfl, rfl, _, rfl, ifD (fun e => by cases e) (fun _ => ?_)⟩
        refine ⟨_, rfl, _, _, _, _, _, rfl, .ty _, (Ty.bl b).x, isaN (by simp [My.six]) (by simp [My.six]), _, rfl, ifTr (by decide) ?_⟩
        refine ⟨_, rfl, _, _, _, _, _, rfl, .ty _, (Ty.bl b).x, isaN (by simp [My.six]) (by simp [My.six]), _, rfl, ifTr (by decide) ?_⟩
        refine ⟨_, rfl, _, rfl, rfl, ?_⟩
        rw [decide_eq_true rfl]; exact k _ (Same.refl _)
      | int _ i =>
        refine ⟨_, rfl, rfl, _, rfl, ifD (fun e => by cases e) (fun _ => ?_)⟩
        refine ⟨_, rfl, _, _, _, _, _, rfl, .ty _, (Ty.int i).x, isaN (by simp [My.six]) (by simp [My.six]), _, rfl, ifFa (by decide) ?_⟩
        refine ⟨_, rfl, _, _, _, _, _, rfl, .ty _, (Ty.int i).x, isaN (by simp [My.six]) (by simp [My.six]), _, rfl, ifTr (by decide) ?_⟩
        refine ⟨_, rfl, _, _, rfl, .int _, _, rfl, ifTr (by decide) ?_⟩
        refine ⟨_, rfl, _, rfl, rfl, ?_⟩
        rw [decide_eq_true rfl]; exact k _ (Same.refl _)
      | str _ x =>
        refine ⟨_, rfl, rfl, _, rfl, ifD (fun e => by cases e) (fun _ => ?_)⟩
        refine ⟨_, rfl, _, _, _, _, _, rfl, .ty _, (Ty.str x).x, isaN (by simp [My.six]) (by simp [My.six]), _, rfl, ifFa (by decide) ?_⟩
        refine ⟨_, rfl, _, _, _, _, _, rfl, .ty _, (Ty.str x).x, isaN (by simp [My.six]) (by simp [My.six]), _, rfl, ifFa (by decide) ?_⟩
        refine ⟨_, rfl, _, _, _, _, _, rfl, .ty _, (Ty.str x).x, isaN (by simp [My.six]) (by simp [My.six]), _, rfl, ifTr (by decide) ?_⟩
        refine ⟨_, rfl, _, _, _, _, _, rfl, .ty _, (Ty.str x).x, isaN (by simp [My.six]) (by simp [My.six]), _, rfl, ifTr (by decide) ?_⟩
        refine ⟨_, rfl, _, rfl, rfl, ?_⟩
        rw [decide_eq_true rfl]; exact k _ (Same.refl _)
      | @lst _ a b xs ys h1 h2 hl hz h =>
        have hu : True := trivial
        (refine ⟨_, rfl, rfl, _, rfl, ifD (fun e => by cases e) (fun _ => ?_)⟩
         refine ⟨_, rfl, _, _, _, _, _, rfl, .ty _, (Ty.lst h2).x, isaN (by simp [My.six]) (by simp [My.six]), _, rfl, ifFa (by decide) ?_⟩
         refine ⟨_, rfl, _, _, _, _, _, rfl, .ty _, (Ty.lst h2).x, isaN (by simp [My.six]) (by simp [My.six]), _, rfl, ifFa (by decide) ?_⟩
         refine ⟨_, rfl, _, _, _, _, _, rfl, .ty _, (Ty.lst h2).x, isaN (by simp [My.six]) (by simp [My.six]), _, rfl, ifFa (by decide) ?_⟩
         refine ⟨_, rfl, _, _, _, _, _, rfl, .ty _, (Ty.lst h2).x, isaN (by simp [My.six]) (by simp [My.six]), _, rfl, ifFa (by decide) (ifFa rfl ?_)⟩
         refine ⟨_, rfl, _, _, _, _, _, rfl, .ty _, (Ty.lst h2).x, isaN (by simp [My.six]) (by simp [My.six]), _, rfl, ifTr (by decide) ⟨_, rfl, _, _, _, _, _, rfl, .ty _, (Ty.lst h1).x, isaN (by simp [My.six]) (by simp [My.six]), _, rfl, ifFa (by decide) ?_⟩⟩
         refine ⟨_, rfl, _, _, rfl, .inl ⟨_, h1, rfl⟩, _, rfl, _, _, rfl, .inl ⟨_, h2, rfl⟩, rfl, _, rfl, ?_⟩
         refine ifND (fun e => absurd (by rw [hl]) e) (fun _ => ?_)
         refine ⟨_, rfl, _, _, rfl, .inl ⟨_, h2, rfl⟩, ys.length, rfl, by omega, by omega, fun D hD => lc_range (lo := 0) (n := ys.length) (fun i H' => Same H H' ∧ H' D = some (.lst ((List.replicate i true).map V.bl))) ⟨same_new hD, upd_same⟩ ?_ ?_⟩
         · rintro i H1 hi ⟨hS, hD1⟩
           have hx := get_at (xs := xs) (i := i) (by omega)
           have hy := get_at (xs := ys) (i := i) (by omega)
           refine ⟨rfl, ?_⟩
           refine ⟨_, rfl, _, rfl, .inl ⟨_, _, _, _, rfl, rfl, hS.seq h1, at_of (Int.zero_add _) hx, ?_⟩⟩
           refine ⟨_, rfl, _, rfl, .inl ⟨_, _, _, _, rfl, rfl, hS.seq h2, at_of (Int.zero_add _) hy, ?_⟩⟩
           refine ⟨_, _, rfl, (h i _ _ hx hy).same hS, fun H2 hS2 => ?_⟩
           refine ⟨_, hS2 _ _ hD1, by rw [List.length_map, List.length_replicate]; exact Nat.lt_of_lt_of_le (Nat.lt_of_lt_of_le hi hz) (by decide), fun b o e => ?_, ?_⟩
           · have e1 := hS2 _ _ (hS _ _ e)
             rw [upd_ne (ne_of_none e hD)]
             exact e1
           · rw [upd_same, List.replicate_succ', List.map_append]; rfl
         · rintro H1 ⟨hS, hD1⟩
           refine ⟨_, _, rfl, SqL.of hD1, ?_⟩
           rw [show (List.replicate ys.length true).all id = true from by rw [List.all_eq_true]; intro x hx; rw [List.eq_of_mem_replicate hx]; rfl]
           exact k _ hS)
      | @tup _ a b xs ys h1 h2 hl hz h =>
        have hu : True := trivial
        (refine ⟨_, rfl, rfl, _, rfl, ifD (fun e => by cases e) (fun _ => ?_)⟩
         refine ⟨_, rfl, _, _, _, _, _, rfl, .ty _, (Ty.tup h2).x, isaN (by simp [My.six]) (by simp [My.six]), _, rfl, ifFa (by decide) ?_⟩
         refine ⟨_, rfl, _, _, _, _, _, rfl, .ty _, (Ty.tup h2).x, isaN (by simp [My.six]) (by simp [My.six]), _, rfl, ifFa (by decide) ?_⟩
         refine ⟨_, rfl, _, _, _, _, _, rfl, .ty _, (Ty.tup h2).x, isaN (by simp [My.six]) (by simp [My.six]), _, rfl, ifFa (by decide) ?_⟩
         refine ⟨_, rfl, _, _, _, _, _, rfl, .ty _, (Ty.tup h2).x, isaN (by simp [My.six]) (by simp [My.six]), _, rfl, ifTr (by decide) ⟨_, rfl, _, _, _, _, _, rfl, .ty _, (Ty.tup h1).x, isaN (by simp [My.six]) (by simp [My.six]), _, rfl, ifFa (by decide) ?_⟩⟩
         refine ⟨_, rfl, _, _, _, _, _, rfl, .ty _, (Ty.tup h2).x, isaN (by simp [My.six]) (by simp [My.six]), _, rfl, ifFa (by decide) (ifFa rfl ?_)⟩
         refine ⟨_, rfl, _, _, rfl, .inr ⟨_, h1, rfl⟩, _, rfl, _, _, rfl, .inr ⟨_, h2, rfl⟩, rfl, _, rfl, ?_⟩
         refine ifND (fun e => absurd (by rw [hl]) e) (fun _ => ?_)
         refine ⟨_, rfl, _, _, rfl, .inr ⟨_, h2, rfl⟩, ys.length, rfl, by omega, by omega, fun D hD => lc_range (lo := 0) (n := ys.length) (fun i H' => Same H H' ∧ H' D = some (.lst ((List.replicate i true).map V.bl))) ⟨same_new hD, upd_same⟩ ?_ ?_⟩
         · rintro i H1 hi ⟨hS, hD1⟩
           have hx := get_at (xs := xs) (i := i) (by omega)
           have hy := get_at (xs := ys) (i := i) (by omega)
           refine ⟨rfl, ?_⟩
           refine ⟨_, rfl, _, rfl, .inr (.inl ⟨_, _, _, _, rfl, rfl, tSame hS h1, at_of (Int.zero_add _) hx, ?_⟩)⟩
           refine ⟨_, rfl, _, rfl, .inr (.inl ⟨_, _, _, _, rfl, rfl, tSame hS h2, at_of (Int.zero_add _) hy, ?_⟩)⟩
           refine ⟨_, _, rfl, (h i _ _ hx hy).same hS, fun H2 hS2 => ?_⟩
           refine ⟨_, hS2 _ _ hD1, by rw [List.length_map, List.length_replicate]; exact Nat.lt_of_lt_of_le (Nat.lt_of_lt_of_le hi hz) (by decide), fun b o e => ?_, ?_⟩
           · have e1 := hS2 _ _ (hS _ _ e)
             rw [upd_ne (ne_of_none e hD)]
             exact e1
           · rw [upd_same, List.replicate_succ', List.map_append]; rfl
         · rintro H1 ⟨hS, hD1⟩
           refine ⟨_, _, rfl, SqL.of hD1, ?_⟩
           rw [show (List.replicate ys.length true).all id = true from by rw [List.all_eq_true]; intro x hx; rw [List.eq_of_mem_replicate hx]; rfl]
           exact k _ hS)

theorem ok__law_turn (T : Txt K mg) : FnOk P w K mg base CX0 1 T.a__law_turn T.d__law_turn ["a", "b", "c"] (fun vs H Q _ => ∃ (a b c : Addr) (ax ay bx dy cx cy : Int), vs = [.ref a, .ref b, .ref c] ∧ SqT K H a [.int ax, .int ay] ∧ SqT K H b [.int bx, .int dy] ∧ SqT K H c [.int cx, .int cy] ∧ (Sm ax ∧ Sm bx ∧ Sm ay ∧ Sm dy) ∧ Q (.int (turnI ax ay bx dy cx cy)) H) := by
  refine T.F__law_turn.ok sc__law_turn (fun vs H Q E h => ?_) (fun cdv A outer s H vs Q E hr h => ?_)
  · obtain ⟨a, b, c, ax, ay, bx, dy, cx, cy, rfl, ha, hb, hc, ⟨s1, s2, s3, s4⟩, k⟩ := h
    rfl
  · obtain ⟨a, b, c, ax, ay, bx, dy, cx, cy, rfl, ha, hb, hc, ⟨s1, s2, s3, s4⟩, k⟩ := h
    refine ⟨_, (pss_one (ps_ret (pe_op op_sub (pe_op op_mul (pe_op op_sub (pe_ix (r := rIxT K) ix_tup (pv 1) pe_int (fun _ _ => rfl)) (pe_ix (r := rIxT K) ix_tup (pv 0) pe_int (fun _ _ => rfl))) (pe_op op_sub (pe_ix (r := rIxT K) ix_tup (pv 2) pe_int (fun _ _ => rfl)) (pe_ix (r := rIxT K) ix_tup (pv 0) pe_int (fun _ _ => rfl)))) (pe_op op_mul (pe_op op_sub (pe_ix (r := rIxT K) ix_tup (pv 1) pe_int (fun _ _ => rfl)) (pe_ix (r := rIxT K) ix_tup (pv 0) pe_int (fun _ _ => rfl))) (pe_op op_sub (pe_ix (r := rIxT K) ix_tup (pv 2) pe_int (fun _ _ => rfl)) (pe_ix (r := rIxT K) ix_tup (pv 0) pe_int (fun _ _ => rfl))))))), ?_⟩
    unfold Sm at s1 s2 s3 s4
    refine ⟨_, rfl, _, _, _, _, rfl, rfl, hb, at0, _, rfl, _, _, _, _, rfl, rfl, ha, at0, _, _, rfl, rfl, _, rfl, _, _, _, _, rfl, rfl, hc, at1, _, rfl, _, _, _, _, rfl, rfl, ha, at1, _, _, rfl, rfl, _, _, rfl, rfl, .inl ⟨by omega, by omega⟩, ?_⟩
    exact ⟨_, rfl, _, _, _, _, rfl, rfl, hb, at1, _, rfl, _, _, _, _, rfl, rfl, ha, at1, _, _, rfl, rfl, _, rfl, _, _, _, _, rfl, rfl, hc, at0, _, rfl, _, _, _, _, rfl, rfl, ha, at0, _, _, rfl, rfl, _, _, rfl, rfl, .inl ⟨by omega, by omega⟩, _, _, rfl, rfl, k⟩

theorem ok__law_sign (T : Txt K mg) : FnOk P w K mg base CX0 1 T.a__law_sign T.d__law_sign ["n"] (fun vs H Q _ => ∃ n, vs = [.int n] ∧ Q (.int (sgn n)) H) := by
  refine T.F__law_sign.ok sc__law_sign (fun vs H Q E h => ?_) (fun cdv A outer s H vs Q E hr h => ?_)
  · obtain ⟨n, rfl, k⟩ := h
    rfl
  · obtain ⟨n, rfl, k⟩ := h
    refine ⟨_, (pss_one (ps_ret (pe_op op_sub (pe_callTy call_int1 (by rfl) T.n_int (by decide +kernel) (pa_cons (pe_cmpR op_gt (pv 0) pe_int (nomark _)) pa_nil)) (pe_callTy call_int1 (by rfl) T.n_int (by decide +kernel) (pa_cons (pe_cmpR op_lt (pv 0) pe_int (nomark _)) pa_nil))))), ?_⟩
    refine ⟨_, rfl, _, _, rfl, rfl, .inr ⟨_, rfl, ?_⟩⟩
    exact ⟨_, rfl, _, _, rfl, rfl, .inr ⟨_, rfl, _, _, rfl, rfl, k⟩⟩

theorem ok__law_between (T : Txt K mg) : FnOk P w K mg base CX0 2 T.a__law_between T.d__law_between ["p", "a", "b"] (fun vs H Q _ => ∃ (p a c : Addr) (px py ax ay bx dy : Int), vs = [.ref p, .ref a, .ref c] ∧ SqT K H p [.int px, .int py] ∧ SqT K H a [.int ax, .int ay] ∧ SqT K H c [.int bx, .int dy] ∧ (Sm ax ∧ Sm bx ∧ Sm ay ∧ Sm dy) ∧ Q (.bl (boxI ax ay bx dy px py)) H) := by
  refine T.F__law_between.ok sc__law_between (fun vs H Q E h => ?_) (fun cdv A outer s H vs Q E hr h => ?_)
  · obtain ⟨p, a, c, px, py, ax, ay, bx, dy, rfl, hp, ha, hc, sm, k⟩ := h
    rfl
  · obtain ⟨p, a, c, px, py, ax, ay, bx, dy, rfl, hp, ha, hc, sm, k⟩ := h
    refine ⟨_, (pss_cons (ps_if (pt_cmpR op_ne (pe_call (ok__law_turn T) (hr.mono (by omega)) rfl T.m__law_turn T.F__law_turn.kp T.b__law_turn .nil pass0 (pa_cons (pv 1) (pa_cons (pv 2) (pa_cons (pv 0) pa_nil)))) pe_int (nomark _))
        (pss_one (ps_ret pe_bl))
        pss_nil)
      (pss_one (ps_ret (pe_and (pe_chain op_le op_le (pe_callB (call_min2 rfl) (by rfl) T.n_min (by decide +kernel) (pa_cons (pe_ix (r := rIxT K) ix_tup (pv 1) pe_int (fun _ _ => rfl)) (pa_cons (pe_ix (r := rIxT K) ix_tup (pv 2) pe_int (fun _ _ => rfl)) pa_nil))) (pe_ix (r := rIxT K) ix_tup (pv 0) pe_int (fun _ _ => rfl)) (pe_callB (call_max2 rfl) (by rfl) T.n_max (by decide +kernel) (pa_cons (pe_ix (r := rIxT K) ix_tup (pv 1) pe_int (fun _ _ => rfl)) (pa_cons (pe_ix (r := rIxT K) ix_tup (pv 2) pe_int (fun _ _ => rfl)) pa_nil)))) (pe_one (pe_chain op_le op_le (pe_callB (call_min2 rfl) (by rfl) T.n_min (by decide +kernel) (pa_cons (pe_ix (r := rIxT K) ix_tup (pv 1) pe_int (fun _ _ => rfl)) (pa_cons (pe_ix (r := rIxT K) ix_tup (pv 2) pe_int (fun _ _ => rfl)) pa_nil))) (pe_ix (r := rIxT K) ix_tup (pv 0) pe_int (fun _ _ => rfl)) (pe_callB (call_max2 rfl) (by rfl) T.n_max (by decide +kernel) (pa_cons (pe_ix (r := rIxT K) ix_tup (pv 1) pe_int (fun _ _ => rfl)) (pa_cons (pe_ix (r := rIxT K) ix_tup (pv 2) pe_int (fun _ _ => rfl)) pa_nil))))))))), ?_⟩
    refine ⟨_, rfl, _, rfl, _, rfl, _, _, _, _, _, _, _, _, _, rfl, ha, hc, hp, sm, rfl, _, rfl, ifND (fun e => ?_) (fun e => ?_)⟩
    · have e : turnI ax ay bx dy px py ≠ 0 := fun z => e (by rw [z])
      unfold boxI at k
      rw [decide_eq_false e, Bool.false_and] at k
      exact k
    · have e : turnI ax ay bx dy px py = 0 := by injection e
      unfold boxI at k
      rw [decide_eq_true e, Bool.true_and] at k
      have two : ∀ (x y z : Int) (Q : VK), Q (.bl (decide (x ≤ y) && decide (y ≤ z))) H → (∃ c, V.bl (decide (x ≤ y)) = V.bl c ∧ if c = true then Q (.bl (decide (y ≤ z))) H else Q (.bl false) H) := by
        intro x y z Q k
        refine ⟨_, rfl, ifB (fun q => ?_) (fun q => ?_)⟩
        · rw [q, Bool.true_and] at k; exact k
        · rw [q, Bool.false_and] at k; exact k
      refine ⟨_, rfl, _, _, _, _, rfl, rfl, ha, at0, _, rfl, _, _, _, _, rfl, rfl, hc, at0, _, _, rfl, _, rfl, _, _, _, _, rfl, rfl, hp, at0, _, _, rfl, rfl, _, rfl, ifB (fun q => ?_) (fun q => ?_)⟩
      · refine ⟨_, rfl, _, _, _, _, rfl, rfl, ha, at0, _, rfl, _, _, _, _, rfl, rfl, hc, at0, _, _, rfl, _, _, rfl, rfl, _, rfl, ?_⟩
        rw [q, Bool.true_and] at k
        refine ifB (fun q => ?_) (fun q => ?_)
        · rw [q, Bool.true_and] at k
          refine ⟨_, rfl, _, _, _, _, rfl, rfl, ha, at1, _, rfl, _, _, _, _, rfl, rfl, hc, at1, _, _, rfl, _, rfl, _, _, _, _, rfl, rfl, hp, at1, _, _, rfl, rfl, _, rfl, ifB (fun q => ?_) (fun q => ?_)⟩
          · rw [q, Bool.true_and] at k
            exact ⟨_, rfl, _, _, _, _, rfl, rfl, ha, at1, _, rfl, _, _, _, _, rfl, rfl, hc, at1, _, _, rfl, _, _, rfl, rfl, k⟩
          · rw [q, Bool.false_and] at k
            exact k
        · rw [q, Bool.false_and] at k
          exact k
      · rw [q, Bool.false_and, Bool.false_and] at k
        exact ⟨_, rfl, k⟩

theorem ok__law_point (T : Txt K mg) : FnOk P w K mg base CX0 2 T.a__law_point T.d__law_point ["stream", "far"] (fun vs H Q _ => ∃ (s : Addr) (far : Int) (b : Addr), vs = [.ref s, .int far] ∧ 0 ≤ far ∧ far ≤ 1000000 ∧ Strm H s b ∧ ∀ (a : Addr) (x y : Int) H', In far x y → Strm H' s b → But s H H' → SqT K H' a [.int x, .int y] → Q (.ref a) H') := by
  refine T.F__law_point.ok sc__law_point (fun vs H Q E h => ?_) (fun cdv A outer s H vs Q E hr h => ?_)
  · obtain ⟨s, far, b, rfl, f0, f1, S, k⟩ := h
    rfl
  · obtain ⟨s, far, b, rfl, f0, f1, S, k⟩ := h
    refine ⟨_, (pss_one (ps_ret (pe_tup (pa_cons (pe_op op_sub (pe_call (ok__law_next T) (hr.mono (by omega)) rfl T.m__law_next T.F__law_next.kp T.b__law_next .nil pass0 (pa_cons (pv 0) (pa_cons (pe_op op_add (pe_op op_mul pe_int (pv 1)) pe_int) pa_nil))) (pv 1)) (pa_cons (pe_op op_sub (pe_call (ok__law_next T) (hr.mono (by omega)) rfl T.m__law_next T.F__law_next.kp T.b__law_next .nil pass0 (pa_cons (pv 0) (pa_cons (pe_op op_add (pe_op op_mul pe_int (pv 1)) pe_int) pa_nil))) (pv 1)) pa_nil))))), ?_⟩
    refine ⟨_, rfl, _, rfl, _, _, rfl, rfl, .inl ⟨by decide, by decide⟩, _, _, rfl, rfl, _, _, _, rfl, by omega, by omega, S, fun d H1 d0 d1 S1 B1 => ?_⟩
    refine ⟨_, rfl, _, _, rfl, rfl, _, rfl, _, rfl, _, _, rfl, rfl, .inl ⟨by decide, by decide⟩, _, _, rfl, rfl, _, _, _, rfl, by omega, by omega, S1, fun e H2 e0 e1 S2 B2 => ?_⟩
    refine ⟨_, rfl, _, _, rfl, rfl, small rfl, fun p hp => ?_⟩
    exact k p (d - far) (e - far) _ ⟨by omega, by omega, by omega, by omega⟩ (S2.over hp) ((B1.trans B2).then_new hp) tHere

theorem ok__law_far (T : Txt K mg) : FnOk P w K mg base CX0 2 T.a__law_far T.d__law_far ["stream"] (fun vs H Q _ => ∃ (s b : Addr), vs = [.ref s] ∧ Strm H s b ∧ ∀ (far : Int) H', Far far → Strm H' s b → But s H H' → Q (.int far) H') := by
  refine T.F__law_far.ok sc__law_far (fun vs H Q E h => ?_) (fun cdv A outer s H vs Q E hr h => ?_)
  · obtain ⟨s, b, rfl, S, k⟩ := h
    rfl
  · obtain ⟨s, b, rfl, S, k⟩ := h
    refine ⟨_, (pss_one (ps_ret (pe_ix (r := rIxL K) ix_list (pe_lst (pa_cons pe_int (pa_cons pe_int (pa_cons pe_int (pa_cons pe_int pa_nil))))) (pe_call (ok__law_next T) (hr.mono (by omega)) rfl T.m__law_next T.F__law_next.kp T.b__law_next .nil pass0 (pa_cons (pv 0) (pa_cons pe_int pa_nil))) (fun _ _ => rfl)))), ?_⟩
    refine ⟨small rfl, fun p hp => ?_⟩
    refine ⟨_, rfl, _, _, _, rfl, by decide, by decide, S.over hp, fun d H1 d0 d1 S1 B1 => ?_⟩
    obtain ⟨v, hv, hf⟩ := atFour (a := V.int 2) (b := .int 4) (c := .int 9) (d := .int 1000) d0 d1
    refine ⟨_, _, _, _, rfl, rfl, SqL.of (rBut B1 hp S), hv, ?_⟩
    have B : But s H H1 := (But.new hp).trans B1
    rcases hf with rfl | rfl | rfl | rfl
    · exact k 2 _ (.inl rfl) S1 B
    · exact k 4 _ (.inr (.inl rfl)) S1 B
    · exact k 9 _ (.inr (.inr (.inl rfl))) S1 B
    · exact k 1000 _ (.inr (.inr (.inr rfl))) S1 B

theorem ok__law_segment (T : Txt K mg) : FnOk P w K mg base CX0 3 T.a__law_segment T.d__law_segment ["stream", "far"] (fun vs H Q _ => ∃ (s b : Addr) (far : Int), vs = [.ref s, .int far] ∧ Far far ∧ Strm H s b ∧ ∀ (g a c : Addr) (ax ay bx dy : Int) H', Strm H' s b → But s H H' → SegAt K H' g a c ax ay bx dy → Q (.ref g) H') := by
  refine T.F__law_segment.ok sc__law_segment (fun vs H Q E h => ?_) (fun cdv A outer s H vs Q E hr h => ?_)
  · obtain ⟨s, b, far, rfl, hf, S, k⟩ := h
    rfl
  · obtain ⟨s, b, far, rfl, hf, S, k⟩ := h
    refine ⟨_, (pss_cons (ps_set (i := 2) sc__law_segment.nd rfl (Or.inl rfl) (pe_call (ok__law_point T) (hr.mono (by omega)) rfl T.m__law_point T.F__law_point.kp T.b__law_point .nil pass0 (pa_cons (pv 0) (pa_cons (pv 1) pa_nil))))
      (pss_cons (ps_set (i := 3) sc__law_segment.nd rfl (Or.inl rfl) (pe_call (ok__law_point T) (hr.mono (by omega)) rfl T.m__law_point T.F__law_point.kp T.b__law_point .nil pass0 (pa_cons (pv 0) (pa_cons (pv 1) pa_nil))))
      (C8.pss_cut (ps_if (pt_cmpR (op_eqP hr.units) (pv 2) (pv 3) (nomark _))
        (pss_cons (ps_set (i := 3) sc__law_segment.nd rfl (Or.inl rfl) (pe_tup (pa_cons (pe_ix (r := rIxT K) ix_tup (pv 2) pe_int (fun _ _ => rfl)) (pa_cons (pe_op op_sub (pe_ix (r := rIxT K) ix_tup (pv 2) pe_int (fun _ _ => rfl)) pe_int) pa_nil))))
        (pss_one (ps_if (pt_cmpR op_eq (pe_ix (r := rIxT K) ix_tup (pv 2) pe_int (fun _ _ => rfl)) (pe_op op_sub pe_int (pv 1)) (nomark _))
          (pss_one (ps_set (i := 3) sc__law_segment.nd rfl (Or.inl rfl) (pe_tup (pa_cons (pe_ix (r := rIxT K) ix_tup (pv 2) pe_int (fun _ _ => rfl)) (pa_cons (pe_op op_add (pe_ix (r := rIxT K) ix_tup (pv 2) pe_int (fun _ _ => rfl)) pe_int) pa_nil)))))
          pss_nil)))
        pss_nil)
      (pss_one (ps_ret (pe_tup (pa_cons (pe_callB (call_minP rfl hr.units) (by rfl) T.n_min (by decide +kernel) (pa_cons (pv 2) (pa_cons (pv 3) pa_nil))) (pa_cons (pe_callB (call_maxP rfl hr.units) (by rfl) T.n_max (by decide +kernel) (pa_cons (pv 2) (pa_cons (pv 3) pa_nil))) pa_nil)))))))), ?_⟩
    have hf' := hf.le
    refine ⟨_, rfl, _, rfl, _, _, _, rfl, by omega, by omega, S, fun a ax ay H1 ia S1 B1 ha => ?_⟩
    refine ⟨_, rfl, _, rfl, _, _, _, rfl, by omega, by omega, S1, fun c bx dy H2 ic S2 B2 hc => ?_⟩
    have ha := tButS B2 S1 ha
    refine ⟨fun σ' H' => ∃ (c' : Addr) (bx' dy' : Int), σ' = [some (.ref s), some (.int far), some (.ref a), some (.ref c')] ∧ Strm H' s b ∧ But s H H' ∧ SqT K H' a [.int ax, .int ay] ∧ SqT K H' c' [.int bx', .int dy'] ∧ On bx' dy' ∧ ¬ (ax = bx' ∧ ay = dy'), ?_, ?_⟩
    · refine ⟨_, rfl, _, rfl, _, _, _, _, _, _, rfl, rfl, ha, hc, _, rfl, ifD (fun e => ?_) (fun e => ⟨_, _, _, rfl, S2, B1.trans B2, ha, hc, ic.on hf'.2, e⟩)⟩
      refine ⟨_, rfl, _, _, _, _, rfl, rfl, ha, at0, _, rfl, _, _, _, _, rfl, rfl, ha, at1, _, _, rfl, rfl, small rfl, fun q hq => ?_⟩
      have ha1 := tOver (o := HO.tup [.int ax, .int (ay - 1)]) hq ha
      unfold In at ia
      refine ⟨_, rfl, _, _, _, _, rfl, rfl, ha1, at1, _, rfl, _, _, rfl, rfl, rfl, _, rfl, ifD (fun z => ?_) (fun z => ?_)⟩
      · have z : ay = 0 - far := by injection z
        refine ⟨_, rfl, _, _, _, _, rfl, rfl, ha1, at0, _, rfl, _, _, _, _, rfl, rfl, ha1, at1, _, _, rfl, rfl, small rfl, fun r hr => ?_⟩
        exact ⟨r, ax, ay + 1, rfl, (S2.over hq).over hr, ((B1.trans B2).then_new hq).then_new hr, tOver hr ha1, tHere, by unfold On; omega, by omega⟩
      · have z : ay ≠ 0 - far := fun w => z (by rw [w])
        exact ⟨q, ax, ay - 1, rfl, S2.over hq, (B1.trans B2).then_new hq, ha1, tHere, by unfold On; omega, by omega⟩
    · rintro σ' H3 ⟨c, bx, dy, rfl, S3, B3, ha, hc, oc, ne⟩
      have oa := ia.on hf'.2
      refine ⟨_, rfl, _, rfl, _, _, _, _, _, _, rfl, ha, hc, _, rfl, _, rfl, _, _, _, _, _, _, rfl, ha, hc, small rfl, fun g hg => ?_⟩
      by_cases l : ltP bx dy ax ay = true
      · have l2 : ltP ax ay bx dy = false := by
          have := of_decide_eq_true l
          exact decide_eq_false (by omega)
        refine k g _ _ _ _ _ _ _ (S3.over hg) (B3.then_new hg) ⟨?_, tOver hg hc, tOver hg ha, oc, oa, l⟩
        have := tHere (K := K) (H := H3) (p := g) (xs := [.ref c, .ref a])
        show SqT K (upd H3 g (.tup [.ref (if ltP bx dy ax ay = true then c else a), .ref (if ltP ax ay bx dy = true then c else a)])) g [.ref c, .ref a]
        rw [if_pos l, l2, if_neg Bool.false_ne_true]
        exact this
      · have l2 : ltP ax ay bx dy = true := decide_eq_true (by
          have : ¬ _ := fun z => l (decide_eq_true z)
          omega)
        refine k g _ _ _ _ _ _ _ (S3.over hg) (B3.then_new hg) ⟨?_, tOver hg ha, tOver hg hc, oa, oc, l2⟩
        have := tHere (K := K) (H := H3) (p := g) (xs := [.ref a, .ref c])
        show SqT K (upd H3 g (.tup [.ref (if ltP bx dy ax ay = true then c else a), .ref (if ltP ax ay bx dy = true then c else a)])) g [.ref a, .ref c]
        rw [if_neg l, if_pos l2]
        exact this

theorem ok__law_ends (T : Txt K mg) : FnOk P w K mg base CX0 3 T.a__law_ends T.d__law_ends ["s", "t"] (fun vs H Q _ => ∃ (g a c h e f : Addr) (ax ay bx dy ex ey fx fy : Int), vs = [.ref g, .ref h] ∧ SegAt K H g a c ax ay bx dy ∧ SegAt K H h e f ex ey fx fy ∧ ∀ (p : Addr) (zs : List Zp) H', Same H H' → SqL K H' p (refs zs) → Pts K H' zs → (zs.map (·.2)).Perm (ends (ax, ay) (bx, dy) (ex, ey) (fx, fy)) → (zs.map (·.2)).Pairwise (fun u v => lt v u = false) → Q (.ref p) H') := by
  refine T.F__law_ends.ok sc__law_ends (fun vs H Q E h => ?_) (fun cdv A outer s H vs Q E hr h => ?_)
  · obtain ⟨g, a, c, h, e, f, ax, ay, bx, dy, ex, ey, fx, fy, rfl, hg, hh, k⟩ := h
    rfl
  · obtain ⟨g, a, c, h, e, f, ax, ay, bx, dy, ex, ey, fx, fy, rfl, hg, hh, k⟩ := h
    refine ⟨_, (pss_cons (ps_set (i := 2) sc__law_ends.nd rfl (Or.inl rfl) (pe_lst pa_nil))
      (pss_cons (ps_for PassesOwn.never rfl (pi_list (pe_lst (pa_cons (pe_ix (r := rIxT K) ix_tup (pv 0) pe_int (fun _ _ => rfl)) (pa_cons (pe_ix (r := rIxT K) ix_tup (pv 0) pe_int (fun _ _ => rfl)) pa_nil)))) (pg_name (i := 3) sc__law_ends.nd rfl (Or.inl rfl))
        (pss_one (ps_if (pt_val (pe_call (ok__law_between T) (hr.mono (by omega)) rfl T.m__law_between T.F__law_between.kp T.b__law_between .nil pass0 (pa_cons (pv 3) (pa_cons (pe_ix (r := rIxT K) ix_tup (pv 1) pe_int (fun _ _ => rfl)) (pa_cons (pe_ix (r := rIxT K) ix_tup (pv 1) pe_int (fun _ _ => rfl)) pa_nil)))))
          (pss_one (ps_expr (pe_bm PySem.F.plainAttrs_list PySem.F.slot_list_append PySem.F.type_list_append mt_append (pv 2) (pa_cons (pv 3) pa_nil))))
          pss_nil)))
      (pss_cons (ps_for PassesOwn.never rfl (pi_list (pe_lst (pa_cons (pe_ix (r := rIxT K) ix_tup (pv 1) pe_int (fun _ _ => rfl)) (pa_cons (pe_ix (r := rIxT K) ix_tup (pv 1) pe_int (fun _ _ => rfl)) pa_nil)))) (pg_name (i := 3) sc__law_ends.nd rfl (Or.inl rfl))
        (pss_one (ps_if (pt_val (pe_call (ok__law_between T) (hr.mono (by omega)) rfl T.m__law_between T.F__law_between.kp T.b__law_between .nil pass0 (pa_cons (pv 3) (pa_cons (pe_ix (r := rIxT K) ix_tup (pv 0) pe_int (fun _ _ => rfl)) (pa_cons (pe_ix (r := rIxT K) ix_tup (pv 0) pe_int (fun _ _ => rfl)) pa_nil)))))
          (pss_one (ps_expr (pe_bm PySem.F.plainAttrs_list PySem.F.slot_list_append PySem.F.type_list_append mt_append (pv 2) (pa_cons (pv 3) pa_nil))))
          pss_nil)))
      (pss_one (ps_ret (pe_callB (cr_sortP hr.units) (by rfl) T.n_sorted (by decide +kernel) (pa_cons (pv 2) pa_nil))))))), ?_⟩
    refine ⟨small rfl, fun D hD => ?_⟩
    have hg1 := hg.same (same_new (o := HO.lst []) hD)
    have hh1 := hh.same (same_new (o := HO.lst []) hD)
    refine ⟨_, rfl, _, _, _, _, rfl, rfl, hg1.g, at0, _, rfl, _, _, _, _, rfl, rfl, hg1.g, at1, small rfl, fun L hL => ⟨_, rfl, ⟨_, lHere⟩, for_list (K := K) (a := L) (xs := [.ref a, .ref c]) (fun i σ' H' => Same H H' ∧ H' L = some (.lst [.ref a, .ref c]) ∧ ∃ (v : Option V) (zs : List Zp), σ' = [some (.ref g), some (.ref h), some (.ref D), v] ∧ H' D = some (.lst (refs zs)) ∧ Pts K H' zs ∧ zs.map (·.2) = ([(ax, ay), (bx, dy)].take i).filter (fun p => on p (ex, ey) (fx, fy)))
      ⟨same_then (same_new hD) hL, upd_same, none, [], rfl, rOver hL upd_same, Pts.nil, rfl⟩ (fun i σ' H' _ z => SqL.of z.2.1) ?_ ?_⟩⟩
    · have nLD : L ≠ D := fun z => by rw [z, upd_same] at hL; cases hL
      rintro i x σ' H' hx ⟨es, hl, v, zs, rfl, hd, hz, hm⟩
      have hi : i < 2 := (List.getElem?_eq_some_iff.mp hx).1
      have hg := hg.same es
      have hh := hh.same es
      have lz : zs.length ≤ 1000 := by
        have w := congrArg List.length hm
        rw [List.length_map] at w
        rw [w]
        refine Nat.le_trans (List.length_filter_le _ _) ?_
        rw [List.length_take]
        exact Nat.le_trans (Nat.min_le_right _ _) (Nat.le_of_ble_eq_true rfl)
      rcases (show i = 0 ∨ i = 1 by omega) with rfl | rfl <;> cases hx
      · refine ⟨_, rfl, _, rfl, _, _, _, _, rfl, rfl, hh.g, at0, _, rfl, _, _, _, _, rfl, rfl, hh.g, at1, _, _, _, _, _, _, _, _, _, rfl, hg.a, hh.a, hh.c, ⟨hh.oa.sx, hh.oc.sx, hh.oa.sy, hh.oc.sy⟩, _, rfl, ifB (fun q => ?_) (fun q => ?_)⟩
        · have q : on (ax, ay) (ex, ey) (fx, fy) = true := (on_box (show lt (ex, ey) (fx, fy) = true from hh.lt)).trans q
          refine ⟨_, rfl, tyL hd, _, rfl, _, _, _, rfl, rfl, hd, by rw [List.length_map]; exact line_of lz, ?_⟩
          exact ⟨Same.put hD es, by rw [upd_ne nLD]; exact hl, _, zs ++ [(a, ax, ay)], rfl, by rw [upd_same]; simp, (hz.app (Pts.one hg.a)).at ⟨_, hd⟩, by rw [List.map_append, hm, take_filter (i := 0) (x := (ax, ay)) rfl, if_pos q]; rfl⟩
        · have q : ¬ on (ax, ay) (ex, ey) (fx, fy) = true := fun z => by
            rw [on_box (show lt (ex, ey) (fx, fy) = true from hh.lt)] at z
            have z : boxI ex ey fx fy ax ay = true := z
            rw [q] at z; cases z
          exact ⟨es, hl, _, zs, rfl, hd, hz, by rw [take_filter (i := 0) (x := (ax, ay)) rfl, if_neg q, List.append_nil]; exact hm⟩
      · refine ⟨_, rfl, _, rfl, _, _, _, _, rfl, rfl, hh.g, at0, _, rfl, _, _, _, _, rfl, rfl, hh.g, at1, _, _, _, _, _, _, _, _, _, rfl, hg.c, hh.a, hh.c, ⟨hh.oa.sx, hh.oc.sx, hh.oa.sy, hh.oc.sy⟩, _, rfl, ifB (fun q => ?_) (fun q => ?_)⟩
        · have q : on (bx, dy) (ex, ey) (fx, fy) = true := (on_box (show lt (ex, ey) (fx, fy) = true from hh.lt)).trans q
          refine ⟨_, rfl, tyL hd, _, rfl, _, _, _, rfl, rfl, hd, by rw [List.length_map]; exact line_of lz, ?_⟩
          exact ⟨Same.put hD es, by rw [upd_ne nLD]; exact hl, _, zs ++ [(c, bx, dy)], rfl, by rw [upd_same]; simp, (hz.app (Pts.one hg.c)).at ⟨_, hd⟩, by rw [List.map_append, hm, take_filter (i := 1) (x := (bx, dy)) rfl, if_pos q]; rfl⟩
        · have q : ¬ on (bx, dy) (ex, ey) (fx, fy) = true := fun z => by
            rw [on_box (show lt (ex, ey) (fx, fy) = true from hh.lt)] at z
            have z : boxI ex ey fx fy bx dy = true := z
            rw [q] at z; cases z
          exact ⟨es, hl, _, zs, rfl, hd, hz, by rw [take_filter (i := 1) (x := (bx, dy)) rfl, if_neg q, List.append_nil]; exact hm⟩
    rintro σ' H' ⟨es, -, v, z1, rfl, hd1, hz1, hm1⟩
    have hm1 : z1.map (·.2) = [(ax, ay), (bx, dy)].filter (fun p => on p (ex, ey) (fx, fy)) := hm1
    have l1 : (z1.map (·.2)).length ≤ 2 := by rw [hm1]; exact List.length_filter_le _ _
    have hg1 := hg.same es
    have hh1 := hh.same es
    clear hL
    refine ⟨_, rfl, _, _, _, _, rfl, rfl, hh1.g, at0, _, rfl, _, _, _, _, rfl, rfl, hh1.g, at1, small rfl, fun L hL => ⟨_, rfl, ⟨_, lHere⟩, for_list (K := K) (a := L) (xs := [.ref e, .ref f]) (fun i σ' H' => Same H H' ∧ H' L = some (.lst [.ref e, .ref f]) ∧ ∃ (v : Option V) (zs : List Zp), σ' = [some (.ref g), some (.ref h), some (.ref D), v] ∧ H' D = some (.lst (refs zs)) ∧ Pts K H' zs ∧ zs.map (·.2) = z1.map (·.2) ++ ([(ex, ey), (fx, fy)].take i).filter (fun p => on p (ax, ay) (bx, dy)))
      ⟨same_then es hL, upd_same, v, z1, rfl, rOver hL hd1, hz1.over hL, (List.append_nil _).symm⟩ (fun i σ' H' _ z => SqL.of z.2.1) ?_ ?_⟩⟩
    · have nLD : L ≠ D := fun z => by rw [z, hd1] at hL; cases hL
      rintro i x σ' H' hx ⟨es, hl, v, zs, rfl, hd, hz, hm⟩
      have hi : i < 2 := (List.getElem?_eq_some_iff.mp hx).1
      have hg := hg.same es
      have hh := hh.same es
      have lz : zs.length ≤ 1000 := by
        have w := congrArg List.length hm
        rw [List.length_map, List.length_append] at w
        have w2 := List.length_filter_le (fun p => on p (ax, ay) (bx, dy)) ([(ex, ey), (fx, fy)].take i)
        have w3 : ([(ex, ey), (fx, fy)].take i).length ≤ 2 := by rw [List.length_take]; exact Nat.min_le_right _ _
        omega
      rcases (show i = 0 ∨ i = 1 by omega) with rfl | rfl <;> cases hx
      · refine ⟨_, rfl, _, rfl, _, _, _, _, rfl, rfl, hg.g, at0, _, rfl, _, _, _, _, rfl, rfl, hg.g, at1, _, _, _, _, _, _, _, _, _, rfl, hh.a, hg.a, hg.c, ⟨hg.oa.sx, hg.oc.sx, hg.oa.sy, hg.oc.sy⟩, _, rfl, ifB (fun q => ?_) (fun q => ?_)⟩
        · have q : on (ex, ey) (ax, ay) (bx, dy) = true := (on_box (show lt (ax, ay) (bx, dy) = true from hg.lt)).trans q
          refine ⟨_, rfl, tyL hd, _, rfl, _, _, _, rfl, rfl, hd, by rw [List.length_map]; exact line_of lz, ?_⟩
          exact ⟨Same.put hD es, by rw [upd_ne nLD]; exact hl, _, zs ++ [(e, ex, ey)], rfl, by rw [upd_same]; simp, (hz.app (Pts.one hh.a)).at ⟨_, hd⟩, by rw [List.map_append, hm, take_filter (i := 0) (x := (ex, ey)) rfl, if_pos q, ← List.append_assoc]; rfl⟩
        · have q : ¬ on (ex, ey) (ax, ay) (bx, dy) = true := fun z => by
            rw [on_box (show lt (ax, ay) (bx, dy) = true from hg.lt)] at z
            have z : boxI ax ay bx dy ex ey = true := z
            rw [q] at z; cases z
          exact ⟨es, hl, _, zs, rfl, hd, hz, by rw [take_filter (i := 0) (x := (ex, ey)) rfl, if_neg q, List.append_nil]; exact hm⟩
      · refine ⟨_, rfl, _, rfl, _, _, _, _, rfl, rfl, hg.g, at0, _, rfl, _, _, _, _, rfl, rfl, hg.g, at1, _, _, _, _, _, _, _, _, _, rfl, hh.c, hg.a, hg.c, ⟨hg.oa.sx, hg.oc.sx, hg.oa.sy, hg.oc.sy⟩, _, rfl, ifB (fun q => ?_) (fun q => ?_)⟩
        · have q : on (fx, fy) (ax, ay) (bx, dy) = true := (on_box (show lt (ax, ay) (bx, dy) = true from hg.lt)).trans q
          refine ⟨_, rfl, tyL hd, _, rfl, _, _, _, rfl, rfl, hd, by rw [List.length_map]; exact line_of lz, ?_⟩
          exact ⟨Same.put hD es, by rw [upd_ne nLD]; exact hl, _, zs ++ [(f, fx, fy)], rfl, by rw [upd_same]; simp, (hz.app (Pts.one hh.c)).at ⟨_, hd⟩, by rw [List.map_append, hm, take_filter (i := 1) (x := (fx, fy)) rfl, if_pos q, ← List.append_assoc]; rfl⟩
        · have q : ¬ on (fx, fy) (ax, ay) (bx, dy) = true := fun z => by
            rw [on_box (show lt (ax, ay) (bx, dy) = true from hg.lt)] at z
            have z : boxI ax ay bx dy fx fy = true := z
            rw [q] at z; cases z
          exact ⟨es, hl, _, zs, rfl, hd, hz, by rw [take_filter (i := 1) (x := (fx, fy)) rfl, if_neg q, List.append_nil]; exact hm⟩
    rintro σ' H' ⟨es, -, v, zs, rfl, hd, hz, hm⟩
    have hm : zs.map (·.2) = z1.map (·.2) ++ [(ex, ey), (fx, fy)].filter (fun p => on p (ax, ay) (bx, dy)) := hm
    refine ⟨_, rfl, _, zs, rfl, SqL.of hd, hz, fun p hp => ?_⟩
    refine k p _ _ (same_then es hp) lHere (fun z q => (hz.over hp) z ((sortP_perm zs).mem_iff.mp q)) ?_ ?_
    · exact ((sortP_perm zs).map (·.2)).trans (List.Perm.of_eq (show zs.map (·.2) = ends (ax, ay) (bx, dy) (ex, ey) (fx, fy) by rw [hm, hm1, ends_pre]))
    · exact List.pairwise_map.mpr (sortP_le zs)

theorem ok__law_apart (T : Txt K mg) : FnOk P w K mg base CX0 2 T.a__law_apart T.d__law_apart ["s", "t"] (fun vs H Q _ => ∃ (g a c h e f : Addr) (ax ay bx dy ex ey fx fy : Int), vs = [.ref g, .ref h] ∧ SegAt K H g a c ax ay bx dy ∧ SegAt K H h e f ex ey fx fy ∧ Q (.bl (apartS (ax, ay) (bx, dy) (ex, ey) (fx, fy))) H) := by
  refine T.F__law_apart.ok sc__law_apart (fun vs H Q E h => ?_) (fun cdv A outer s H vs Q E hr h => ?_)
  · obtain ⟨g, a, c, h, e, f, ax, ay, bx, dy, ex, ey, fx, fy, rfl, hg, hh, k⟩ := h
    rfl
  · obtain ⟨g, a, c, h, e, f, ax, ay, bx, dy, ex, ey, fx, fy, rfl, hg, hh, k⟩ := h
    refine ⟨_, (pss_cons (ps_set (i := 2) sc__law_apart.nd rfl (Or.inl rfl) (pe_op op_mul (pe_call (ok__law_sign T) (hr.mono (by omega)) rfl T.m__law_sign T.F__law_sign.kp T.b__law_sign .nil pass0 (pa_cons (pe_call (ok__law_turn T) (hr.mono (by omega)) rfl T.m__law_turn T.F__law_turn.kp T.b__law_turn .nil pass0 (pa_cons (pe_ix (r := rIxT K) ix_tup (pv 0) pe_int (fun _ _ => rfl)) (pa_cons (pe_ix (r := rIxT K) ix_tup (pv 0) pe_int (fun _ _ => rfl)) (pa_cons (pe_ix (r := rIxT K) ix_tup (pv 1) pe_int (fun _ _ => rfl)) pa_nil)))) pa_nil)) (pe_call (ok__law_sign T) (hr.mono (by omega)) rfl T.m__law_sign T.F__law_sign.kp T.b__law_sign .nil pass0 (pa_cons (pe_call (ok__law_turn T) (hr.mono (by omega)) rfl T.m__law_turn T.F__law_turn.kp T.b__law_turn .nil pass0 (pa_cons (pe_ix (r := rIxT K) ix_tup (pv 0) pe_int (fun _ _ => rfl)) (pa_cons (pe_ix (r := rIxT K) ix_tup (pv 0) pe_int (fun _ _ => rfl)) (pa_cons (pe_ix (r := rIxT K) ix_tup (pv 1) pe_int (fun _ _ => rfl)) pa_nil)))) pa_nil))))
      (pss_cons (ps_set (i := 3) sc__law_apart.nd rfl (Or.inl rfl) (pe_op op_mul (pe_call (ok__law_sign T) (hr.mono (by omega)) rfl T.m__law_sign T.F__law_sign.kp T.b__law_sign .nil pass0 (pa_cons (pe_call (ok__law_turn T) (hr.mono (by omega)) rfl T.m__law_turn T.F__law_turn.kp T.b__law_turn .nil pass0 (pa_cons (pe_ix (r := rIxT K) ix_tup (pv 1) pe_int (fun _ _ => rfl)) (pa_cons (pe_ix (r := rIxT K) ix_tup (pv 1) pe_int (fun _ _ => rfl)) (pa_cons (pe_ix (r := rIxT K) ix_tup (pv 0) pe_int (fun _ _ => rfl)) pa_nil)))) pa_nil)) (pe_call (ok__law_sign T) (hr.mono (by omega)) rfl T.m__law_sign T.F__law_sign.kp T.b__law_sign .nil pass0 (pa_cons (pe_call (ok__law_turn T) (hr.mono (by omega)) rfl T.m__law_turn T.F__law_turn.kp T.b__law_turn .nil pass0 (pa_cons (pe_ix (r := rIxT K) ix_tup (pv 1) pe_int (fun _ _ => rfl)) (pa_cons (pe_ix (r := rIxT K) ix_tup (pv 1) pe_int (fun _ _ => rfl)) (pa_cons (pe_ix (r := rIxT K) ix_tup (pv 0) pe_int (fun _ _ => rfl)) pa_nil)))) pa_nil))))
      (pss_one (ps_ret (pe_or (pe_cmpR op_ge (pv 2) pe_int (nomark _)) (pe_one (pe_cmpR op_ge (pv 3) pe_int (nomark _)))))))), ?_⟩
    refine ⟨_, rfl, _, _, _, _, rfl, rfl, hg.g, at0, _, rfl, _, _, _, _, rfl, rfl, hg.g, at1, _, rfl, _, _, _, _, rfl, rfl, hh.g, at0, _, _, _, _, _, _, _, _, _, rfl, hg.a, hg.c, hh.a, ⟨hg.oa.sx, hg.oc.sx, hg.oa.sy, hg.oc.sy⟩, _, rfl, _, rfl, _, _, _, _, rfl, rfl, hg.g, at0, _, rfl, _, _, _, _, rfl, rfl, hg.g, at1, _, rfl, _, _, _, _, rfl, rfl, hh.g, at1, _, _, _, _, _, _, _, _, _, rfl, hg.a, hg.c, hh.c, ⟨hg.oa.sx, hg.oc.sx, hg.oa.sy, hg.oc.sy⟩, _, rfl, _, _, rfl, rfl, .inl (sgn_b _), ?_⟩
    refine ⟨_, rfl, _, _, _, _, rfl, rfl, hh.g, at0, _, rfl, _, _, _, _, rfl, rfl, hh.g, at1, _, rfl, _, _, _, _, rfl, rfl, hg.g, at0, _, _, _, _, _, _, _, _, _, rfl, hh.a, hh.c, hg.a, ⟨hh.oa.sx, hh.oc.sx, hh.oa.sy, hh.oc.sy⟩, _, rfl, _, rfl, _, _, _, _, rfl, rfl, hh.g, at0, _, rfl, _, _, _, _, rfl, rfl, hh.g, at1, _, rfl, _, _, _, _, rfl, rfl, hg.g, at1, _, _, _, _, _, _, _, _, _, rfl, hh.a, hh.c, hg.c, ⟨hh.oa.sx, hh.oc.sx, hh.oa.sy, hh.oc.sy⟩, _, rfl, _, _, rfl, rfl, .inl (sgn_b _), ?_⟩
    have k : Q (.bl (decide (0 ≤ sgn (turnI ax ay bx dy ex ey) * sgn (turnI ax ay bx dy fx fy)) || decide (0 ≤ sgn (turnI ex ey fx fy ax ay) * sgn (turnI ex ey fx fy bx dy)))) H := k
    refine ⟨_, rfl, _, _, rfl, rfl, _, rfl, ifB (fun q => ?_) (fun q => ?_)⟩
    · rw [q, Bool.true_or] at k
      exact k
    · rw [q, Bool.false_or] at k
      exact ⟨_, rfl, _, _, rfl, rfl, k⟩

theorem ok__law_is_on_line (T : Txt K mg) : FnOk P w K mg base CX0 4 T.a__law_is_on_line T.d__law_is_on_line ["x", "y", "s"] (fun vs H Q _ => ∃ (x y g a c : Addr) (N D M E ax ay bx dy : Int), vs = [.ref x, .ref y, .ref g] ∧ SqT K H x [.int N, .int D] ∧ SqT K H y [.int M, .int E] ∧ SegAt K H g a c ax ay bx dy ∧ 0 < D ∧ 0 < E ∧ (N.natAbs ≤ 2 ^ 60 ∧ D.natAbs ≤ 2 ^ 60 ∧ M.natAbs ≤ 2 ^ 60 ∧ E.natAbs ≤ 2 ^ 60) ∧ (bx - ax) * (M - ay * E) * D = (dy - ay) * (N - ax * D) * E ∧ ∀ H', Same H H' → Q (.bl true) H') := by
  refine T.F__law_is_on_line.ok sc__law_is_on_line (fun vs H Q E h => ?_) (fun cdv A outer s H vs Q E hr h => ?_)
  · obtain ⟨x, y, g, a, c, N, D, M, E, ax, ay, bx, dy, rfl, hx, hy, hg, zd, ze, ⟨b1, b2, b3, b4⟩, hl, k⟩ := h
    rfl
  · obtain ⟨x, y, g, a, c, N, D, M, E, ax, ay, bx, dy, rfl, hx, hy, hg, zd, ze, ⟨b1, b2, b3, b4⟩, hl, k⟩ := h
    refine ⟨_, (pss_cons (ps_set (i := 3) sc__law_is_on_line.nd rfl (Or.inl rfl) (pe_call (ok__law_times T) (hr.mono (by omega)) rfl T.m__law_times T.F__law_times.kp T.b__law_times .nil pass0 (pa_cons (pe_tup (pa_cons (pe_op op_sub (pe_ix (r := rIxT K) ix_tup (pe_ix (r := rIxT K) ix_tup (pv 2) pe_int (fun _ _ => rfl)) pe_int (fun _ _ => rfl)) (pe_ix (r := rIxT K) ix_tup (pe_ix (r := rIxT K) ix_tup (pv 2) pe_int (fun _ _ => rfl)) pe_int (fun _ _ => rfl))) (pa_cons pe_int pa_nil))) (pa_cons (pe_call (ok__law_plus T) (hr.mono (by omega)) rfl T.m__law_plus T.F__law_plus.kp T.b__law_plus .nil pass0 (pa_cons (pv 1) (pa_cons (pe_tup (pa_cons (pe_op op_sub pe_int (pe_ix (r := rIxT K) ix_tup (pe_ix (r := rIxT K) ix_tup (pv 2) pe_int (fun _ _ => rfl)) pe_int (fun _ _ => rfl))) (pa_cons pe_int pa_nil))) pa_nil))) pa_nil))))
      (pss_cons (ps_set (i := 4) sc__law_is_on_line.nd rfl (Or.inl rfl) (pe_call (ok__law_times T) (hr.mono (by omega)) rfl T.m__law_times T.F__law_times.kp T.b__law_times .nil pass0 (pa_cons (pe_tup (pa_cons (pe_op op_sub (pe_ix (r := rIxT K) ix_tup (pe_ix (r := rIxT K) ix_tup (pv 2) pe_int (fun _ _ => rfl)) pe_int (fun _ _ => rfl)) (pe_ix (r := rIxT K) ix_tup (pe_ix (r := rIxT K) ix_tup (pv 2) pe_int (fun _ _ => rfl)) pe_int (fun _ _ => rfl))) (pa_cons pe_int pa_nil))) (pa_cons (pe_call (ok__law_plus T) (hr.mono (by omega)) rfl T.m__law_plus T.F__law_plus.kp T.b__law_plus .nil pass0 (pa_cons (pv 0) (pa_cons (pe_tup (pa_cons (pe_op op_sub pe_int (pe_ix (r := rIxT K) ix_tup (pe_ix (r := rIxT K) ix_tup (pv 2) pe_int (fun _ _ => rfl)) pe_int (fun _ _ => rfl))) (pa_cons pe_int pa_nil))) pa_nil))) pa_nil))))
      (pss_one (ps_ret (pe_cmpR (op_eqP hr.units) (pv 3) (pv 4) (nomark _)))))), ?_⟩
    have v := hg.oc.d hg.oa
    have oa0 : ax.natAbs ≤ 2 ^ 10 := by have z := hg.oa; unfold On at z; omega
    have oa1 : ay.natAbs ≤ 2 ^ 10 := by have z := hg.oa; unfold On at z; omega
    have hs := hg
    refine ⟨_, rfl, _, _, _, _, rfl, rfl, hg.g, at1, _, _, _, _, rfl, rfl, hg.c, at0, _, rfl, _, _, _, _, rfl, rfl, hg.g, at0, _, _, _, _, rfl, rfl, hg.a, at0, _, _, rfl, rfl, small rfl, fun p1 w1 => ?_⟩
    have hg := hg.same (same_new (o := HO.tup [.int (bx - ax), .int 1]) w1)
    refine ⟨_, rfl, _, rfl, _, _, _, _, rfl, rfl, hg.g, at0, _, _, _, _, rfl, rfl, hg.a, at1, _, _, rfl, rfl, small rfl, fun p2 w2 => ?_⟩
    refine ⟨_, _, _, _, _, _, rfl, tOver w2 (tOver w1 hy), tHere, (by omega), (by decide), pow_up b3, pow_up b4, (by omega), (by decide), fun p3 w3 => ?_⟩
    have L1 := low_ok (n := M * 1 + (0 - ay) * E) (d := E * 1) (by omega)
    have n1 := Nat.le_trans L1.leN (add_le (x := 79) (pow_up (mul_le (y := 0) b3 (show (1 : Int).natAbs ≤ 2 ^ 0 by decide))) (pow_up (mul_le (x := 11) (show (0 - ay).natAbs ≤ 2 ^ 11 by omega) b4)))
    have d1 := Nat.le_trans L1.leD (mul_le (y := 0) b4 (show (1 : Int).natAbs ≤ 2 ^ 0 by decide))
    generalize lowN (M * 1 + (0 - ay) * E) (E * 1) = N1 at *
    generalize lowD (M * 1 + (0 - ay) * E) (E * 1) = D1 at *
    have q1 := L1.pos
    refine ⟨_, _, _, _, _, _, rfl, tOver w3 (tOver w2 tHere), tHere, (by decide), (by omega), pow_up v.1, (by decide), pow_up n1, pow_up d1, fun p4 w4 => ?_⟩
    have e1 := same_then (same_then (same_then (same_new (o := HO.tup [.int (bx - ax), .int 1]) w1) (o := HO.tup [.int (0 - ay), .int 1]) w2) (o := HO.tup [.int N1, .int D1]) w3) (o := HO.tup [.int (lowN ((bx - ax) * N1) (1 * D1)), .int (lowD ((bx - ax) * N1) (1 * D1))]) w4
    dsimp only
    have r1 : SqT K (upd (upd (upd (upd H p1 (HO.tup [.int (bx - ax), .int 1])) p2 (HO.tup [.int (0 - ay), .int 1])) p3 (HO.tup [.int N1, .int D1])) p4 (HO.tup [.int (lowN ((bx - ax) * N1) (1 * D1)), .int (lowD ((bx - ax) * N1) (1 * D1))])) p4 [.int (lowN ((bx - ax) * N1) (1 * D1)), .int (lowD ((bx - ax) * N1) (1 * D1))] := tHere
    have hg := hs.same e1
    have hx := tSame e1 hx
    clear hs hy w1 w2 w3 w4
    generalize (upd (upd (upd (upd H p1 (HO.tup [.int (bx - ax), .int 1])) p2 (HO.tup [.int (0 - ay), .int 1])) p3 (HO.tup [.int N1, .int D1])) p4 (HO.tup [.int (lowN ((bx - ax) * N1) (1 * D1)), .int (lowD ((bx - ax) * N1) (1 * D1))])) = H4 at hg hx e1 r1 ⊢
    have hs := hg
    refine ⟨_, rfl, _, _, _, _, rfl, rfl, hg.g, at1, _, _, _, _, rfl, rfl, hg.c, at1, _, rfl, _, _, _, _, rfl, rfl, hg.g, at0, _, _, _, _, rfl, rfl, hg.a, at1, _, _, rfl, rfl, small rfl, fun p1 w1 => ?_⟩
    have hg := hg.same (same_new (o := HO.tup [.int (dy - ay), .int 1]) w1)
    refine ⟨_, rfl, _, rfl, _, _, _, _, rfl, rfl, hg.g, at0, _, _, _, _, rfl, rfl, hg.a, at0, _, _, rfl, rfl, small rfl, fun p2 w2 => ?_⟩
    refine ⟨_, _, _, _, _, _, rfl, tOver w2 (tOver w1 hx), tHere, (by omega), (by decide), pow_up b1, pow_up b2, (by omega), (by decide), fun p3 w3 => ?_⟩
    have L2 := low_ok (n := N * 1 + (0 - ax) * D) (d := D * 1) (by omega)
    have n2 := Nat.le_trans L2.leN (add_le (x := 79) (pow_up (mul_le (y := 0) b1 (show (1 : Int).natAbs ≤ 2 ^ 0 by decide))) (pow_up (mul_le (x := 11) (show (0 - ax).natAbs ≤ 2 ^ 11 by omega) b2)))
    have d2 := Nat.le_trans L2.leD (mul_le (y := 0) b2 (show (1 : Int).natAbs ≤ 2 ^ 0 by decide))
    generalize lowN (N * 1 + (0 - ax) * D) (D * 1) = N2 at *
    generalize lowD (N * 1 + (0 - ax) * D) (D * 1) = D2 at *
    have q2 := L2.pos
    refine ⟨_, _, _, _, _, _, rfl, tOver w3 (tOver w2 tHere), tHere, (by decide), (by omega), pow_up v.2, (by decide), pow_up n2, pow_up d2, fun p4 w4 => ?_⟩
    have e2 := same_then (same_then (same_then (same_new (o := HO.tup [.int (dy - ay), .int 1]) w1) (o := HO.tup [.int (0 - ax), .int 1]) w2) (o := HO.tup [.int N2, .int D2]) w3) (o := HO.tup [.int (lowN ((dy - ay) * N2) (1 * D2)), .int (lowD ((dy - ay) * N2) (1 * D2))]) w4
    dsimp only
    have z1 : 1 * D1 ≠ 0 := by omega
    have z2 : 1 * D2 ≠ 0 := by omega
    obtain ⟨⟨g1, y1, f1, f2⟩, -, -⟩ := L1
    obtain ⟨⟨g2, y2, f3, f4⟩, -, -⟩ := L2
    have u := low_unique (low_ok (n := (bx - ax) * N1) z1) (low_ok (n := (dy - ay) * N2) z2) z1 z2 (on_line_eq zd ze hl _ _ _ _ (low_line f1 f2) (low_line f3 f4) z1 z2)
    refine ⟨_, rfl, _, rfl, _, _, _, _, _, _, rfl, rfl, tSame e2 r1, tHere, ?_⟩
    show Q (V.bl (decide (lowN ((bx - ax) * N1) (1 * D1) = lowN ((dy - ay) * N2) (1 * D2) ∧ lowD ((bx - ax) * N1) (1 * D1) = lowD ((dy - ay) * N2) (1 * D2)))) _
    rw [decide_eq_true u]
    exact k _ (e1.trans e2)

theorem ok__law_pair (T : Txt K mg) : FnOk P w K mg base CX0 4 T.a__law_pair T.d__law_pair ["stream"] (fun vs H Q _ => ∃ (s b : Addr), vs = [.ref s] ∧ Strm H s b ∧ ∀ (p g a c h e f : Addr) (ax ay bx dy ex ey fx fy : Int) H', Strm H' s b → But s H H' → SqT K H' p [.ref g, .ref h] → SegAt K H' g a c ax ay bx dy → SegAt K H' h e f ex ey fx fy → Q (.ref p) H') := by
  refine T.F__law_pair.ok sc__law_pair (fun vs H Q E h => ?_) (fun cdv A outer s H vs Q E hr h => ?_)
  · obtain ⟨s, b, rfl, S, k⟩ := h
    rfl
  · obtain ⟨s, b, rfl, S, k⟩ := h
    refine ⟨_, (pss_cons (ps_set (i := 1) sc__law_pair.nd rfl (Or.inl rfl) (pe_call (ok__law_far T) (hr.mono (by omega)) rfl T.m__law_far T.F__law_far.kp T.b__law_far .nil pass0 (pa_cons (pv 0) pa_nil)))
      (pss_cons (ps_set (i := 2) sc__law_pair.nd rfl (Or.inl rfl) (pe_call (ok__law_segment T) (hr.mono (by omega)) rfl T.m__law_segment T.F__law_segment.kp T.b__law_segment .nil pass0 (pa_cons (pv 0) (pa_cons (pv 1) pa_nil))))
      (pss_cons (ps_set (i := 3) sc__law_pair.nd rfl (Or.inl rfl) (pe_call (ok__law_segment T) (hr.mono (by omega)) rfl T.m__law_segment T.F__law_segment.kp T.b__law_segment .nil pass0 (pa_cons (pv 0) (pa_cons (pv 1) pa_nil))))
      (pss_cons (ps_set (i := 4) sc__law_pair.nd rfl (Or.inl rfl) (pe_call (ok__law_next T) (hr.mono (by omega)) rfl T.m__law_next T.F__law_next.kp T.b__law_next .nil pass0 (pa_cons (pv 0) (pa_cons pe_int pa_nil))))
      (C8.pss_cut (ps_if (pt_cmpR op_lt (pv 4) pe_int (nomark _))
        (pss_cons (ps_set (i := 5) sc__law_pair.nd rfl (Or.inr rfl) (pe_op op_add pe_int (pe_call (ok__law_next T) (hr.mono (by omega)) rfl T.m__law_next T.F__law_next.kp T.b__law_next .nil pass0 (pa_cons (pv 0) (pa_cons pe_int pa_nil)))))
        (pss_cons (ps_set (i := 6) sc__law_pair.nd rfl (Or.inr rfl) (pe_op op_sub (pe_call (ok__law_next T) (hr.mono (by omega)) rfl T.m__law_next T.F__law_next.kp T.b__law_next .nil pass0 (pa_cons (pv 0) (pa_cons pe_int pa_nil))) pe_int))
        (pss_cons (ps_set (i := 7) sc__law_pair.nd rfl (Or.inl rfl) (pe_callB cr_sortedI (by rfl) T.n_sorted (by decide +kernel) (pa_cons (pe_lc (own := [("k", 16)]) (g := gName 16) (tt := tYes) rfl sc__law_pair.nd (pi_range1 rfl T.n_range (pa_cons pe_int pa_nil)) (blkOk_by (own := [("k", 16)]) (N := N__law_pair) (sc := defScope s__law_pair) (by decide +kernel)) (fun _ _ _ _ _ => pg_name (i := 16) sc__law_pair.nd rfl (Or.inl rfl)) (fun _ _ _ _ _ => pts_nil) (fun _ _ _ _ _ => (pe_call (ok__law_next T) (hr.mono (by omega)) rfl T.m__law_next T.F__law_next.kp T.b__law_next .nil pass0 (pa_cons (pv 0) (pa_cons pe_int pa_nil))))) pa_nil)))
        (pss_cons (ps_set (i := 8) sc__law_pair.nd rfl (Or.inr rfl) (pe_lc (own := [("k", 16)]) (g := gName 16) (tt := tYes) rfl sc__law_pair.nd (pi_list (pv 7)) (blkOk_by (own := [("k", 16)]) (N := N__law_pair) (sc := defScope s__law_pair) (by decide +kernel)) (fun _ _ _ _ _ => pg_name (i := 16) sc__law_pair.nd rfl (Or.inl rfl)) (fun _ _ _ _ _ => pts_nil) (fun _ _ _ _ _ => (pe_tup (pa_cons (pe_op op_mul (pv 5) (pv 16)) (pa_cons (pe_op op_mul (pv 6) (pv 16)) pa_nil))))))
        (pss_cons (ps_set (i := 9) sc__law_pair.nd rfl (Or.inl rfl) (pe_ix (r := rIxL K) ix_list (pe_lst (pa_cons (pe_lst (pa_cons pe_int (pa_cons pe_int (pa_cons pe_int (pa_cons pe_int pa_nil))))) (pa_cons (pe_lst (pa_cons pe_int (pa_cons pe_int (pa_cons pe_int (pa_cons pe_int pa_nil))))) (pa_cons (pe_lst (pa_cons pe_int (pa_cons pe_int (pa_cons pe_int (pa_cons pe_int pa_nil))))) pa_nil)))) (pe_call (ok__law_next T) (hr.mono (by omega)) rfl T.m__law_next T.F__law_next.kp T.b__law_next .nil pass0 (pa_cons (pv 0) (pa_cons pe_int pa_nil))) (fun _ _ => rfl)))
        (pss_cons (ps_asg (pe_lc (own := [("k", 16)]) (g := gName 16) (tt := tYes) rfl sc__law_pair.nd (pi_list (pv 9)) (blkOk_by (own := [("k", 16)]) (N := N__law_pair) (sc := defScope s__law_pair) (by decide +kernel)) (fun _ _ _ _ _ => pg_name (i := 16) sc__law_pair.nd rfl (Or.inl rfl)) (fun _ _ _ _ _ => pts_nil) (fun _ _ _ _ _ => (pe_ix (r := rIxL K) ix_list (pv 8) (pv 16) (fun _ _ => rfl)))) (pg_lst (by rfl) (pgs_cons (pg_name (i := 10) sc__law_pair.nd rfl (Or.inl rfl)) (pgs_cons (pg_name (i := 11) sc__law_pair.nd rfl (Or.inl rfl)) (pgs_cons (pg_name (i := 12) sc__law_pair.nd rfl (Or.inl rfl)) (pgs_cons (pg_name (i := 13) sc__law_pair.nd rfl (Or.inl rfl)) pgs_nil))))))
        (pss_one (ps_if (PW.pt (pw_and (pt_cmpR (op_neP hr.units) (pv 10) (pv 11) (nomark _)) (pw_and1 (pt_cmpR (op_neP hr.units) (pv 12) (pv 13) (nomark _)))))
          (pss_one (ps_ret (pe_tup (pa_cons (pe_tup (pa_cons (pe_callB (call_minP rfl hr.units) (by rfl) T.n_min (by decide +kernel) (pa_cons (pv 10) (pa_cons (pv 11) pa_nil))) (pa_cons (pe_callB (call_maxP rfl hr.units) (by rfl) T.n_max (by decide +kernel) (pa_cons (pv 10) (pa_cons (pv 11) pa_nil))) pa_nil))) (pa_cons (pe_tup (pa_cons (pe_callB (call_minP rfl hr.units) (by rfl) T.n_min (by decide +kernel) (pa_cons (pv 12) (pa_cons (pv 13) pa_nil))) (pa_cons (pe_callB (call_maxP rfl hr.units) (by rfl) T.n_max (by decide +kernel) (pa_cons (pv 12) (pa_cons (pv 13) pa_nil))) pa_nil))) pa_nil)))))
          pss_nil))))))))
        pss_nil)
      (C8.pss_cut (ps_if (pt_cmpR op_in_seq (pv 4) (pe_lst (pa_cons pe_int (pa_cons pe_int pa_nil))) (by rfl))
        (pss_cons (ps_set (i := 14) sc__law_pair.nd rfl (Or.inl rfl) (pe_ix (r := rIxT K) ix_tup (pv 3) (pe_call (ok__law_next T) (hr.mono (by omega)) rfl T.m__law_next T.F__law_next.kp T.b__law_next .nil pass0 (pa_cons (pv 0) (pa_cons pe_int pa_nil))) (fun _ _ => rfl)))
        (pss_cons (ps_set (i := 15) sc__law_pair.nd rfl (Or.inl rfl) (pe_ix (r := rIxT K) ix_tup (pv 2) (pe_call (ok__law_next T) (hr.mono (by omega)) rfl T.m__law_next T.F__law_next.kp T.b__law_next .nil pass0 (pa_cons (pv 0) (pa_cons pe_int pa_nil))) (fun _ _ => rfl)))
        (pss_one (ps_if (pt_cmpR (op_neP hr.units) (pv 14) (pv 15) (nomark _))
          (pss_one (ps_ret (pe_tup (pa_cons (pv 2) (pa_cons (pe_tup (pa_cons (pe_callB (call_minP rfl hr.units) (by rfl) T.n_min (by decide +kernel) (pa_cons (pv 14) (pa_cons (pv 15) pa_nil))) (pa_cons (pe_callB (call_maxP rfl hr.units) (by rfl) T.n_max (by decide +kernel) (pa_cons (pv 14) (pa_cons (pv 15) pa_nil))) pa_nil))) pa_nil)))))
          pss_nil))))
        pss_nil)
      (pss_one (ps_ret (pe_tup (pa_cons (pv 2) (pa_cons (pv 3) pa_nil))))))))))), ?_⟩
    refine ⟨_, rfl, _, _, rfl, S, fun far H1 hf S1 B1 => ?_⟩
    have hf' := hf.le
    refine ⟨_, rfl, _, rfl, _, _, _, rfl, hf, S1, fun g a c ax ay bx dy H2 S2 B2 hg => ?_⟩
    refine ⟨_, rfl, _, rfl, _, _, _, rfl, hf, S2, fun h e f ex ey fx fy H3 S3 B3 hh => ?_⟩
    have hg := hg.but B3 S2
    refine ⟨_, rfl, _, _, _, rfl, by decide, by decide, S3, fun pk H4 _ _ S4 B4 => ?_⟩
    have hg := hg.but B4 S3
    have hh := hh.but B4 S3
    have B := ((B1.trans B2).trans B3).trans B4
    clear S1 S2 S3 B1 B2 B3 B4
    refine ⟨fun σ' H' => ∃ x5 x6 x7 x8 x9 x10 x11 x12 x13 : Option V, σ' = [some (.ref s), some (.int far), some (.ref g), some (.ref h), some (.int pk), x5, x6, x7, x8, x9, x10, x11, x12, x13, none, none, none] ∧ Strm H' s b ∧ But s H H' ∧ SegAt K H' g a c ax ay bx dy ∧ SegAt K H' h e f ex ey fx fy, ?_, ?_⟩
    · refine ⟨_, rfl, _, _, rfl, rfl, _, rfl, ifD (fun _ => ?_) (fun _ => ⟨_, _, _, _, _, _, _, _, _, rfl, S4, B, hg, hh⟩)⟩
      refine ⟨_, rfl, _, _, _, rfl, by decide, by decide, S4, fun n1 H5 n10 n11 S5 B5 => ⟨_, _, rfl, rfl, ?_⟩⟩
      refine ⟨_, rfl, _, _, _, rfl, by decide, by decide, S5, fun n2 H6 n20 n21 S6 B6 => ⟨_, _, rfl, rfl, ?_⟩⟩
      have hg := (hg.but B5 S4).but B6 S5
      have hh := (hh.but B5 S4).but B6 S5
      have B := (B.trans B5).trans B6
      clear S4 S5 B5 B6
      -- row
      refine ⟨4, rfl, by decide, by decide, fun D hD => lc_range (lo := 0) (n := 4) (fun i H' => ∃ zs : List Int, zs.length = i ∧ H' D = some (.lst (zs.map V.int)) ∧ Strm H' s b ∧ (∀ z ∈ zs, 0 ≤ z ∧ z ≤ 8) ∧ But s H6 H') ⟨[], rfl, upd_same, S6.over hD, by simp, But.new hD⟩ ?_ ?_⟩
      · have q1 := S6.new1 hD
        have q2 := S6.new2 hD
        rintro i H7 hi ⟨zs, hl, hp, S7, hz, B7⟩
        refine ⟨rfl, ?_⟩
        refine ⟨_, rfl, _, _, _, rfl, by decide, by decide, S7, fun d H8 d0 d1 S8 B8 => ?_⟩
        have hp8 := B8 D _ q1 hp
        refine ⟨_, hp8, by rw [List.length_map]; exact line_of (by omega), zs ++ [d], by simp [hl], by rw [upd_same]; simp, S8.at q1 q2, ?_, But.put hD (B7.trans B8)⟩
        intro z hz'
        rcases List.mem_append.mp hz' with q | q
        · exact hz z q
        · rw [List.mem_singleton] at q; rw [q]; omega
      rintro H7 ⟨zs, hl, hp, S7, hz, B7⟩
      refine ⟨_, zs, rfl, SqL.of hp, fun row r perm _ hr => ?_⟩
      have rl : row.length = 4 := by rw [perm.length_eq, hl]
      have rz : ∀ z ∈ row, 0 ≤ z ∧ z ≤ 8 := fun z q => hz z (perm.mem_iff.mp q)
      have B8 := B7.then_new (o := HO.lst (row.map V.int)) hr
      have S8 := S7.over (o := HO.lst (row.map V.int)) hr
      have hr8 : (upd H7 r (.lst (row.map V.int))) r = some (.lst (row.map V.int)) := upd_same
      generalize upd H7 r (.lst (row.map V.int)) = H8 at S8 hr8 B8 ⊢
      have hg := hg.but B8 S6
      have hh := hh.but B8 S6
      have B := B.trans B8
      clear hp hz hl perm S7 B7 hr S6 B8 hD
      -- places
      refine ⟨_, rfl, _, rfl, ⟨_, SqL.of hr8⟩, fun D2 hD2 => ?_⟩
      have nr : r ≠ D2 := ne_of_none hr8 hD2
      have nD2 := S8.new1 hD2
      refine lc_list (K := K) (a := r) (xs := row.map V.int) (fun i H' => H' r = some (.lst (row.map V.int)) ∧ Strm H' s b ∧ But s H8 H' ∧ ∃ ps : List Zp, ps.length = i ∧ H' D2 = some (.lst (refs ps)) ∧ Pts K H' ps ∧ ∀ z ∈ ps, On z.2.1 z.2.2) ⟨by rw [upd_ne nr]; exact hr8, S8.over hD2, But.new hD2, [], rfl, upd_same, Pts.nil, by simp⟩ (fun i H' _ z => SqL.of z.1) ?_ ?_
      · have q1 := S8.new1 hD2
        have q2 := S8.new2 hD2
        rintro i x H9 hx ⟨hr9, S9, B9, ps, hl9, hp9, hps, hon⟩
        rw [List.getElem?_map] at hx
        obtain ⟨z, hz1, rfl⟩ := Option.map_eq_some_iff.mp hx
        have zb := rz z (List.mem_of_getElem? hz1)
        have hi : i < row.length := (List.getElem?_eq_some_iff.mp hz1).1
        refine ⟨rfl, ?_⟩
        refine ⟨_, rfl, _, rfl, _, _, rfl, rfl, .inr ⟨by omega, by omega⟩, _, rfl, _, rfl, _, _, rfl, rfl, .inr ⟨by omega, by omega⟩, small rfl, fun t ht => ?_⟩
        refine ⟨_, rOver ht hp9, by rw [List.length_map]; exact line_of (by omega), ?_, (S9.over ht).at q1 q2, But.put hD2 (B9.then_new ht), ps ++ [(t, (1 + n1) * z, (n2 - 2) * z)], by simp [hl9], by rw [upd_same]; simp, ((hps.over ht).app (Pts.one tHere)).at ⟨_, rOver ht hp9⟩, ?_⟩
        · rw [upd_ne nr]; exact rOver ht hr9
        · intro y hy
          rcases List.mem_append.mp hy with q | q
          · exact hon y q
          · rw [List.mem_singleton] at q; rw [q]; exact row_on n10 n11 n20 n21 zb
      rintro H9 ⟨hr9, S9, B9, ps, hl9, hp9, hps, hon⟩
      rw [List.length_map, rl] at hl9
      have hg := hg.but B9 S8
      have hh := hh.but B9 S8
      have B := B.trans B9
      clear hr9 hr8 S8 B9 hD2 nr rz
      -- order
      refine ⟨small rfl, fun o1 w1 => ⟨small rfl, fun o2 w2 => ⟨small rfl, fun o3 w3 => ⟨small rfl, fun o4 w4 => ?_⟩⟩⟩⟩
      refine ⟨_, rfl, _, _, _, rfl, by decide, by decide, (((S9.over w1).over w2).over w3).over w4, fun n3 H10 n30 n31 S10 B10 => ?_⟩
      have E9 := (((But.new (s := s) (o := HO.lst [.int 0, .int 1, .int 2, .int 3]) w1).then_new (o := HO.lst [.int 0, .int 2, .int 1, .int 3]) w2).then_new (o := HO.lst [.int 0, .int 3, .int 1, .int 2]) w3).then_new (o := HO.lst [.ref o1, .ref o2, .ref o3]) w4
      have B9' := E9.trans B10
      have hg := hg.but B9' S9
      have hh := hh.but B9' S9
      have B := B.trans B9'
      have hp9 := B9' D2 _ nD2 hp9
      have hps := hps.but B9' S9
      have k1 := B10 o1 _ (S9.new1 w1) (rOver w4 (rOver w3 (rOver w2 upd_same)))
      have k2 := B10 o2 _ ((S9.over w1).new1 w2) (rOver w4 (rOver w3 upd_same))
      have k3 := B10 o3 _ (((S9.over w1).over w2).new1 w3) (rOver w4 upd_same)
      have k4 := B10 o4 _ ((((S9.over w1).over w2).over w3).new1 w4) upd_same
      obtain ⟨w, hw, ow⟩ := atThree (a := V.ref o1) (b := V.ref o2) (c := V.ref o3) n30 n31
      have key : ∃ (o : Addr) (is : List Int), w = .ref o ∧ H10 o = some (.lst (is.map V.int)) ∧ is.length = 4 ∧ ∀ x ∈ is, 0 ≤ x ∧ x < 4 := by
        rcases ow with rfl | rfl | rfl
        · exact ⟨o1, [0, 1, 2, 3], rfl, k1, rfl, by decide⟩
        · exact ⟨o2, [0, 2, 1, 3], rfl, k2, rfl, by decide⟩
        · exact ⟨o3, [0, 3, 1, 2], rfl, k3, rfl, by decide⟩
      obtain ⟨o, is, rfl, ho, il, ib⟩ := key
      refine ⟨_, _, _, _, rfl, rfl, SqL.of k4, hw, ?_⟩
      clear k1 k2 k3 k4 ow hw w1 w2 w3 w4 E9 B9' B10 S9
      refine ⟨_, rfl, _, rfl, ⟨_, SqL.of ho⟩, fun D3 hD3 => ?_⟩
      have no : o ≠ D3 := ne_of_none ho hD3
      have nD : D2 ≠ D3 := ne_of_none hp9 hD3
      refine lc_list (K := K) (a := o) (xs := is.map V.int) (fun i H' => H' o = some (.lst (is.map V.int)) ∧ H' D2 = some (.lst (refs ps)) ∧ Same H10 H' ∧ ∃ qs : List Zp, qs.length = i ∧ H' D3 = some (.lst (refs qs)) ∧ ∀ z ∈ qs, z ∈ ps) ⟨by rw [upd_ne no]; exact ho, by rw [upd_ne nD]; exact hp9, same_new hD3, [], rfl, upd_same, by simp⟩ (fun i H' _ z => SqL.of z.1) ?_ ?_
      · rintro i x H11 hx ⟨hr, hp, es, qs, hl, hq, hm⟩
        rw [List.getElem?_map] at hx
        obtain ⟨z, hz1, rfl⟩ := Option.map_eq_some_iff.mp hx
        have zb := ib z (List.mem_of_getElem? hz1)
        have hi : i < is.length := (List.getElem?_eq_some_iff.mp hz1).1
        refine ⟨rfl, ?_⟩
        obtain ⟨y, hy, ym⟩ := four_at hl9 zb.1 zb.2
        refine ⟨_, rfl, _, rfl, _, _, _, _, rfl, rfl, SqL.of hp, hy, ?_⟩
        refine ⟨_, hq, by rw [List.length_map]; exact line_of (by omega), by rw [upd_ne no]; exact hr, by rw [upd_ne nD]; exact hp, Same.put hD3 es, qs ++ [y], by simp [hl], by rw [upd_same]; simp, ?_⟩
        intro y' hy'
        rcases List.mem_append.mp hy' with q | q
        · exact hm y' q
        · rw [List.mem_singleton] at q; rw [q]; exact ym
      rintro H11 ⟨-, -, es, qs, hl, hq, hm⟩
      rw [List.length_map, il] at hl
      have hps := hps.same es
      have hg := hg.same es
      have hh := hh.same es
      have S11 := S10.same es
      have B := B.then_same es
      clear es hD3 S10 hp9
      obtain ⟨⟨a1, a1x, a1y⟩, ⟨a2, a2x, a2y⟩, ⟨a3, a3x, a3y⟩, ⟨a4, a4x, a4y⟩, rfl⟩ := four_of hl
      have h1 := hps _ (hm (a1, a1x, a1y) (by simp))
      have h2 := hps _ (hm (a2, a2x, a2y) (by simp))
      have h3 := hps _ (hm (a3, a3x, a3y) (by simp))
      have h4 := hps _ (hm (a4, a4x, a4y) (by simp))
      have i1 := hon _ (hm (a1, a1x, a1y) (by simp))
      have i2 := hon _ (hm (a2, a2x, a2y) (by simp))
      have i3 := hon _ (hm (a3, a3x, a3y) (by simp))
      have i4 := hon _ (hm (a4, a4x, a4y) (by simp))
      refine ⟨_, _, rfl, SqL.of hq, rfl, _, _, rfl, _, _, rfl, _, _, rfl, _, _, rfl, rfl, ?_⟩
      clear hq hm hps hon
      refine ⟨_, rfl, _, rfl, _, _, _, _, _, _, rfl, rfl, h1, h2, _, rfl, ifND (fun m1 => ?_) (fun _ => ⟨_, _, _, _, _, _, _, _, _, rfl, S11, B, hg, hh⟩)⟩
      refine ⟨_, rfl, _, rfl, _, _, _, _, _, _, rfl, rfl, h3, h4, _, rfl, ifND (fun m2 => ?_) (fun _ => ⟨_, _, _, _, _, _, _, _, _, rfl, S11, B, hg, hh⟩)⟩
      refine ⟨_, rfl, _, rfl, _, _, _, _, _, _, rfl, h1, h2, _, rfl, _, rfl, _, _, _, _, _, _, rfl, h1, h2, small rfl, fun t1 w1 => ?_⟩
      refine ⟨_, rfl, _, rfl, _, _, _, _, _, _, rfl, (tOver w1 h3), (tOver w1 h4), _, rfl, _, rfl, _, _, _, _, _, _, rfl, (tOver w1 h3), (tOver w1 h4), small rfl, fun t2 w2 => ?_⟩
      obtain ⟨_, _, _, _, _, _, sg1⟩ := seg_mm (K := K) (t := t1) (u := a1) (v := a2) tHere (tOver w1 h1) (tOver w1 h2) i1 i2 m1
      obtain ⟨_, _, _, _, _, _, sg2⟩ := seg_mm (K := K) (t := t2) (u := a3) (v := a4) tHere (tOver w2 (tOver w1 h3)) (tOver w2 (tOver w1 h4)) i3 i4 m2
      exact ⟨small rfl, fun t3 w3 => k t3 t1 _ _ t2 _ _ _ _ _ _ _ _ _ _ _ (((S11.over w1).over w2).over w3) (((B.then_new w1).then_new w2).then_new w3) tHere ((sg1.same (same_new w2)).same (same_new w3)) (sg2.same (same_new w3))⟩
    rintro σ' H5 ⟨x5, x6, x7, x8, x9, x10, x11, x12, x13, rfl, S5, B5, hg, hh⟩
    refine ⟨fun σ' H' => ∃ x14 x15 : Option V, σ' = [some (.ref s), some (.int far), some (.ref g), some (.ref h), some (.int pk), x5, x6, x7, x8, x9, x10, x11, x12, x13, x14, x15, none] ∧ Strm H' s b ∧ But s H H' ∧ SegAt K H' g a c ax ay bx dy ∧ SegAt K H' h e f ex ey fx fy, ?_, ?_⟩
    · refine ⟨_, rfl, small rfl, fun L hL => ⟨_, _, rfl, .inl lHere, rfl, rfl, _, rfl, ifB (fun _ => ?_) (fun _ => ⟨_, _, rfl, S5.over hL, B5.then_new hL, hg.same (same_new hL), hh.same (same_new hL)⟩)⟩⟩
      have hg := hg.same (same_new (o := HO.lst [.int 3, .int 4]) hL)
      have hh := hh.same (same_new (o := HO.lst [.int 3, .int 4]) hL)
      have S6 := S5.over (o := HO.lst [.int 3, .int 4]) hL
      have B6 := B5.then_new (o := HO.lst [.int 3, .int 4]) hL
      generalize upd H5 L (HO.lst [.int 3, .int 4]) = H6 at hg hh S6 B6 ⊢
      refine ⟨_, rfl, _, rfl, _, _, _, rfl, by decide, by decide, S6, fun n H7 n0 n1 S7 B7 => ?_⟩
      have hg := hg.but B7 S6
      have hh := hh.but B7 S6
      obtain ⟨o, ox, oy, hat, ho, oo⟩ := end_at hh n0 n1
      refine ⟨_, _, _, _, rfl, rfl, hh.g, hat, ?_⟩
      refine ⟨_, rfl, _, rfl, _, _, _, rfl, by decide, by decide, S7, fun m H8 m0 m1 S8 B8 => ?_⟩
      have hg := hg.but B8 S7
      have hh := hh.but B8 S7
      have ho := tButS B8 S7 ho
      have B := (B6.trans B7).trans B8
      obtain ⟨u, ux, uy, uat, hu, ou⟩ := end_at hg m0 m1
      refine ⟨_, _, _, _, rfl, rfl, hg.g, uat, ?_⟩
      refine ⟨_, rfl, _, rfl, _, _, _, _, _, _, rfl, rfl, ho, hu, _, rfl, ifND (fun ne => ?_) (fun _ => ⟨_, _, rfl, S8, B, hg, hh⟩)⟩
      refine ⟨_, rfl, _, rfl, _, rfl, _, _, _, _, _, _, rfl, ho, hu, _, rfl, _, rfl, _, _, _, _, _, _, rfl, ho, hu, small rfl, fun t1 w1 => ?_⟩
      obtain ⟨a', c', ax', ay', bx', dy', sg⟩ := seg_mm (K := K) (t := t1) (u := o) (v := u) tHere (tOver w1 ho) (tOver w1 hu) oo ou ne
      exact ⟨small rfl, fun p hp => k p g a c t1 a' c' _ _ _ _ _ _ _ _ _ ((S8.over w1).over hp) ((B.then_new w1).then_new hp) tHere ((hg.same (same_new w1)).same (same_new hp)) (sg.same (same_new hp))⟩
    rintro σ' H6 ⟨x14, x15, rfl, S6, B6, hg, hh⟩
    exact ⟨_, rfl, _, rfl, small rfl, fun p hp => k p g a c h e f _ _ _ _ _ _ _ _ _ (S6.over hp) (B6.then_new hp) tHere (hg.same (same_new hp)) (hh.same (same_new hp))⟩

theorem ok_law (T : Txt K mg) : FnOk P w K mg base CX0 6 T.a_law T.d_law ["script"] (spLaw K) := by
  refine T.F_law.ok sc_law (fun vs H Q E h => ?_) (fun cdv A outer s H vs Q E hr h => ?_)
  · obtain ⟨w0, ns, rfl, hS, hlen, k⟩ := h
    rfl
  · obtain ⟨w0, ns, rfl, hS, hlen, k⟩ := h
    refine ⟨_, (pss_cons (ps_set (i := 1) sc_law.nd rfl (Or.inl rfl) (pe_call (ok__law_stream T) (hr.mono (by omega)) rfl T.m__law_stream T.F__law_stream.kp T.b__law_stream .nil pass0 (pa_cons (pv 0) pa_nil)))
      (pss_cons (ps_asg (pe_call (ok__law_pair T) (hr.mono (by omega)) rfl T.m__law_pair T.F__law_pair.kp T.b__law_pair .nil pass0 (pa_cons (pv 1) pa_nil)) (pg_tup (by rfl) (pgs_cons (pg_name (i := 2) sc_law.nd rfl (Or.inl rfl)) (pgs_cons (pg_name (i := 3) sc_law.nd rfl (Or.inl rfl)) pgs_nil))))
      (pss_cons (ps_set (i := 4) sc_law.nd rfl (Or.inl rfl) (pe_call (ok__law_ends T) (hr.mono (by omega)) rfl T.m__law_ends T.F__law_ends.kp T.b__law_ends .nil pass0 (pa_cons (pv 2) (pa_cons (pv 3) pa_nil))))
      (pss_cons (ps_set (i := 5) sc_law.nd rfl (Or.inl rfl) (pe_call (ok_meeting T) (hr.mono (by omega)) rfl T.m_meeting T.F_meeting.kp T.b_meeting .nil pass0 (pa_cons (pv 2) (pa_cons (pv 3) pa_nil))))
      (pss_cons (ps_if (pt_not (pt_val (pe_call (ok__law_equal T 4) (hr.mono (by omega)) rfl T.m__law_equal T.F__law_equal.kp T.b__law_equal .nil pass0 (pa_cons (pe_call (ok_meeting T) (hr.mono (by omega)) rfl T.m_meeting T.F_meeting.kp T.b_meeting .nil pass0 (pa_cons (pv 3) (pa_cons (pv 2) pa_nil))) (pa_cons (pv 5) pa_nil)))))
        (pss_one (ps_ret pe_bl))
        pss_nil)
      (pss_cons (ps_if (PW.pt (pw_and (pt_truth (pv 4) (by intro _; rfl)) (pw_and1 (pt_cmpR (op_neP hr.units) (pe_ix (r := rIxL K) ix_list (pv 4) pe_int (fun _ _ => rfl)) (pe_ix (r := rIxL K) ix_list (pv 4) (pe_un un_neg pe_int) (fun _ _ => rfl)) (nomark _)))))
        (pss_one (ps_ret (pe_call (ok__law_equal T 4) (hr.mono (by omega)) rfl T.m__law_equal T.F__law_equal.kp T.b__law_equal .nil pass0 (pa_cons (pv 5) (pa_cons (pe_tup (pa_cons pe_str (pa_cons (pe_ix (r := rIxL K) ix_list (pv 4) pe_int (fun _ _ => rfl)) (pa_cons (pe_ix (r := rIxL K) ix_list (pv 4) (pe_un un_neg pe_int) (fun _ _ => rfl)) pa_nil)))) pa_nil)))))
        pss_nil)
      (pss_cons (ps_if (pt_truth (pv 4) (by intro _; rfl))
        (pss_one (ps_ret (pe_call (ok__law_equal T 4) (hr.mono (by omega)) rfl T.m__law_equal T.F__law_equal.kp T.b__law_equal .nil pass0 (pa_cons (pv 5) (pa_cons (pe_tup (pa_cons pe_str (pa_cons (pe_ix (r := rIxL K) ix_list (pv 4) pe_int (fun _ _ => rfl)) pa_nil))) pa_nil)))))
        pss_nil)
      (pss_cons (ps_if (pt_val (pe_call (ok__law_apart T) (hr.mono (by omega)) rfl T.m__law_apart T.F__law_apart.kp T.b__law_apart .nil pass0 (pa_cons (pv 2) (pa_cons (pv 3) pa_nil))))
        (pss_one (ps_ret (pe_call (ok__law_equal T 4) (hr.mono (by omega)) rfl T.m__law_equal T.F__law_equal.kp T.b__law_equal .nil pass0 (pa_cons (pv 5) (pa_cons (pe_tup (pa_cons pe_str pa_nil)) pa_nil)))))
        pss_nil)
      (pss_cons (ps_if (PW.pt (pw_or (pt_not (pt_val (pe_callB call_isi (by rfl) T.n_isinstance (by decide +kernel) (pa_cons (pv 5) (pa_cons (pe_bltn (v := .ty "tuple") (by rfl) T.n_tuple (by decide +kernel) rfl) pa_nil))))) (pw_or (pt_cmpR op_ne (pe_callB call_len (by rfl) T.n_len (by decide +kernel) (pa_cons (pv 5) pa_nil)) pe_int (nomark _)) (pw_or1 (pt_cmpR op_ne (pe_ix (r := rIxT K) ix_tup (pv 5) pe_int (fun _ _ => rfl)) pe_str (nomark _))))))
        (pss_one (ps_ret pe_bl))
        pss_nil)
      (pss_cons (ps_for PassesOwn.never rfl (pi_tup (pe_slice sl_tup (pv 5) (po_some pe_int) po_none)) (pg_name (i := 6) sc_law.nd rfl (Or.inl rfl))
        (pss_cons (ps_if (PW.pt (pw_or (pt_not (pt_val (pe_callB call_isi (by rfl) T.n_isinstance (by decide +kernel) (pa_cons (pv 6) (pa_cons (pe_bltn (v := .ty "tuple") (by rfl) T.n_tuple (by decide +kernel) rfl) pa_nil))))) (pw_or (pt_cmpR op_ne (pe_callB call_len (by rfl) T.n_len (by decide +kernel) (pa_cons (pv 6) pa_nil)) pe_int (nomark _)) (pw_or1 (pt_not (pt_val (pe_callB (cr_all rfl) (by rfl) T.n_all (by decide +kernel) (pa_cons (pe_lc (own := [("one", 7)]) (g := gName 7) (tt := tYes) rfl sc_law.nd (pi_tup (pv 6)) (blkOk_by (own := [("one", 7)]) (N := N_law) (sc := defScope s_law) (by decide +kernel)) (fun _ _ _ _ _ => pg_name (i := 7) sc_law.nd rfl (Or.inl rfl)) (fun _ _ _ _ _ => pts_nil) (fun _ _ _ _ _ => (pe_call (ok__law_is_integer T) (hr.mono (by omega)) rfl T.m__law_is_integer T.F__law_is_integer.kp T.b__law_is_integer .nil pass0 (pa_cons (pv 7) pa_nil)))) pa_nil))))))))
          (pss_one (ps_ret pe_bl))
          pss_nil)
        (pss_one (ps_if (PW.pt (pw_or (pt_cmpR op_lt (pe_ix (r := rIxT K) ix_tup (pv 6) pe_int (fun _ _ => rfl)) pe_int (nomark _)) (pw_or1 (pt_cmpR (op_neP hr.units) (pe_call (ok__law_low T) (hr.mono (by omega)) rfl T.m__law_low T.F__law_low.kp T.b__law_low .nil pass0 (pa_cons (pe_ix (r := rIxT K) ix_tup (pv 6) pe_int (fun _ _ => rfl)) (pa_cons (pe_ix (r := rIxT K) ix_tup (pv 6) pe_int (fun _ _ => rfl)) pa_nil))) (pv 6) (nomark _)))))
          (pss_one (ps_ret pe_bl))
          pss_nil))))
      (pss_one (ps_ret (pe_and (pe_call (ok__law_is_on_line T) (hr.mono (by omega)) rfl T.m__law_is_on_line T.F__law_is_on_line.kp T.b__law_is_on_line .nil pass0 (pa_cons (pe_ix (r := rIxT K) ix_tup (pv 5) pe_int (fun _ _ => rfl)) (pa_cons (pe_ix (r := rIxT K) ix_tup (pv 5) pe_int (fun _ _ => rfl)) (pa_cons (pv 2) pa_nil)))) (pe_one (pe_call (ok__law_is_on_line T) (hr.mono (by omega)) rfl T.m__law_is_on_line T.F__law_is_on_line.kp T.b__law_is_on_line .nil pass0 (pa_cons (pe_ix (r := rIxT K) ix_tup (pv 5) pe_int (fun _ _ => rfl)) (pa_cons (pe_ix (r := rIxT K) ix_tup (pv 5) pe_int (fun _ _ => rfl)) (pa_cons (pv 3) pa_nil)))))))))))))))))), ?_⟩
    refine ⟨_, rfl, _, ns, rfl, hS, fun H1 s b e1 n1 S1 => ?_⟩
    refine ⟨_, rfl, _, _, rfl, S1, fun p g a c h e f ax ay bx dy ex ey fx fy H2 S2 B2 hp hg hh => ?_⟩
    refine ⟨_, _, rfl, hp, rfl, _, _, rfl, _, _, rfl, rfl, ?_⟩
    clear hp S2 B2 S1 e1 n1 hS
    refine ⟨_, rfl, _, rfl, _, _, _, _, _, _, _, _, _, _, _, _, _, _, rfl, hg, hh, fun q zs H3 e3 hq hz perm srt => ?_⟩
    have hg := hg.same e3
    have hh := hh.same e3
    refine ⟨_, rfl, _, rfl, _, _, _, _, _, _, _, _, _, _, _, _, _, _, rfl, hg, hh, fun v H4 e4 hv => ?_⟩
    have hg := hg.same e4
    have hh := hh.same e4
    refine ⟨_, rfl, _, rfl, _, _, _, _, _, _, _, _, _, _, _, _, _, _, rfl, hh, hg, fun u H5 e5 hu => ?_⟩
    rw [meet_sym (a := (ax, ay)) (b := (bx, dy)) (c := (ex, ey)) (d := (fx, fy)) hg.lt hh.lt] at hu
    have hg := hg.same e5
    have hh := hh.same e5
    have hv := hv.same e5
    have R := meet_right (a := (ax, ay)) (b := (bx, dy)) (c := (ex, ey)) (d := (fx, fy)) hg.lt hh.lt
    refine ⟨_, rfl, _, _, rfl, hu.dq hv, fun H6 e6 => ⟨_, rfl, ?_⟩⟩
    have hg := hg.same e6
    have hh := hh.same e6
    have hv := hv.same e6
    have es := (e4.trans e5).trans e6
    have hq := Same.seq es hq
    have hz := hz.same es
    clear e3 e4 e5 e6 es hu
    have TB : (Same H6 H6) := Same.refl _
    cases zs with
    | cons z rest =>
      obtain ⟨l, hl⟩ : ∃ l, (z :: rest)[rest.length]? = some l := ⟨_, List.getElem?_eq_getElem (by simp)⟩
      have hlast : atI (refs (z :: rest)) (-1) = some (.ref l.1) := at_m1 (l := refs rest) (by
        show (refs (z :: rest))[(refs rest).length]? = _
        rw [List.length_map, List.getElem?_map, hl]; rfl)
      obtain ⟨m1, m2, ord⟩ := first_last perm srt (x := z.2) (y := l.2) (n := rest.length) rfl (by rw [List.getElem?_map, hl]; rfl) (by simp)
      have z1 := hz z (by simp)
      have z2 := hz l (List.mem_of_getElem? hl)
      refine ⟨_, rfl, _, .inl ⟨_, hq, rfl⟩, ?_⟩
      refine ⟨_, rfl, _, _, _, _, rfl, rfl, hq, at0, _, rfl, _, rfl, _, _, _, _, rfl, rfl, hq, hlast, _, _, _, _, _, _, rfl, rfl, z1, z2, _, rfl, ifND (fun ne => ?_) (fun eq => ?_)⟩
      · have m : meetM (ax, ay) (bx, dy) (ex, ey) (fx, fy) = .over z.2 l.2 := R.over_ _ _ m1 m2 (fun w => ne (by rw [w]; exact ⟨rfl, rfl⟩)) ord
        rw [m] at hv
        exact ⟨_, rfl, _, rfl, _, _, _, _, rfl, rfl, hq, at0, _, rfl, _, rfl, _, _, _, _, rfl, rfl, hq, hlast, small rfl, fun t ht => ⟨_, _, rfl, (hv.same (same_new ht)).dq ⟨t, _, _, rfl, tHere, tOver ht z1, tOver ht z2⟩, fun H7 _ => k H7⟩⟩
      · have e1 : z.2 = l.2 := pt_eq eq.1 eq.2
        have m : meetM (ax, ay) (bx, dy) (ex, ey) (fx, fy) = .touch z.2 := R.touch_ _ m1 (fun r hr => lt_tri (ord r hr).1 (by rw [e1]; exact (ord r hr).2))
        rw [m] at hv
        refine ⟨_, rfl, _, .inl ⟨_, hq, rfl⟩, ?_⟩
        exact ⟨_, rfl, _, rfl, _, _, _, _, rfl, rfl, hq, at0, small rfl, fun t ht => ⟨_, _, rfl, (hv.same (same_new ht)).dq ⟨t, _, rfl, tHere, tOver ht z1⟩, fun H7 _ => k H7⟩⟩
    | nil =>
      have h0 : ends (ax, ay) (bx, dy) (ex, ey) (fx, fy) = [] := List.nil_perm.mp perm
      refine ⟨_, rfl, _, .inl ⟨_, hq, rfl⟩, ?_⟩
      refine ⟨_, rfl, _, .inl ⟨_, hq, rfl⟩, ?_⟩
      refine ⟨_, rfl, _, rfl, _, _, _, _, _, _, _, _, _, _, _, _, _, _, rfl, hg, hh, _, rfl, ifB (fun ap => ?_) (fun ap => ?_)⟩
      · have m := R.none_ h0 (apart_yes ap)
        rw [m] at hv
        exact ⟨_, rfl, small rfl, fun t ht => ⟨_, _, rfl, (hv.same (same_new ht)).dq ⟨t, rfl, tHere⟩, fun H7 _ => k H7⟩⟩
      obtain ⟨c1, c2⟩ := apart_not ap
      have m := R.cross_ h0 c1 c2
      have nw : tn (ex, ey) (fx, fy) (ax, ay) - tn (ex, ey) (fx, fy) (bx, dy) ≠ 0 := by
        have := neg_signs c2
        omega
      have sym := cut_sym (a := (ax, ay)) (b := (bx, dy)) (c := (ex, ey)) (d := (fx, fy)) nw
      have f4 := tn_four (ax, ay) (bx, dy) (ex, ey) (fx, fy)
      rw [m] at hv
      have t1 : (tn (ex, ey) (fx, fy) (ax, ay)).natAbs ≤ 2 ^ 23 := turn_le hh.oa hh.oc hg.oa
      have t2 : (tn (ex, ey) (fx, fy) (bx, dy)).natAbs ≤ 2 ^ 23 := turn_le hh.oa hh.oc hg.oc
      clear m R perm srt c1 c2 ap hz
      generalize tn (ex, ey) (fx, fy) (ax, ay) = be at *
      generalize tn (ex, ey) (fx, fy) (bx, dy) = af at *
      generalize tn (ax, ay) (bx, dy) (ex, ey) = cf at *
      generalize tn (ax, ay) (bx, dy) (fx, fy) = ce at *
      unfold cross at hv sym
      dsimp only at hv sym
      obtain ⟨p1, q1, r1, rfl, ht, hx, hy⟩ := hv
      injection sym with y1 y2
      injection y1 with y3 y4
      injection y2 with y5 y6
      have L1 := low_ok (n := cutN ax bx be af) nw
      have L2 := low_ok (n := cutN ay dy be af) nw
      have L3 := low_ok (n := cutN ex fx cf ce) (d := cf - ce) (by omega)
      have L4 := low_ok (n := cutN ey fy cf ce) (d := cf - ce) (by omega)
      rw [y3, y4] at L3
      rw [y5, y6] at L4
      have g1 := cross_on L1 L2
      have g2 := cross_on L3 L4
      have oa0 : ax.natAbs ≤ 2 ^ 11 := by have z := hg.oa; unfold On at z; omega
      have oa1 : ay.natAbs ≤ 2 ^ 11 := by have z := hg.oa; unfold On at z; omega
      have bw : (be - af).natAbs ≤ 2 ^ 24 := sub_le t1 t2
      have v := hg.oc.d hg.oa
      have c0 : (cutN ax bx be af).natAbs ≤ 2 ^ 36 := add_le (x := 35) (mul_le (x := 11) (y := 24) oa0 bw) (pow_up (mul_le (x := 23) (y := 11) t1 v.1))
      have c1 : (cutN ay dy be af).natAbs ≤ 2 ^ 36 := add_le (x := 35) (mul_le (x := 11) (y := 24) oa1 bw) (pow_up (mul_le (x := 23) (y := 11) t1 v.2))
      have x1 := Nat.le_trans L1.leN c0
      have x2 := Nat.le_trans L1.leD bw
      have x3 := Nat.le_trans L2.leN c1
      have x4 := Nat.le_trans L2.leD bw
      have hx : SqT K H6 q1 [.int (lowN (cutN ax bx be af) (be - af)), .int (lowD (cutN ax bx be af) (be - af))] := hx
      have hy : SqT K H6 r1 [.int (lowN (cutN ay dy be af) (be - af)), .int (lowD (cutN ay dy be af) (be - af))] := hy
      have P1 := L1.pos
      have P2 := L2.pos
      have O1 := L1.one
      have O2 := L2.one
      clear L1 L2 L3 L4 y3 y4 y5 y6 c0 c1
      generalize lowN (cutN ax bx be af) (be - af) = N at *
      generalize lowD (cutN ax bx be af) (be - af) = D at *
      generalize lowN (cutN ay dy be af) (be - af) = M at *
      generalize lowD (cutN ay dy be af) (be - af) = E' at *
      refine ⟨_, rfl, _, _, _, _, _, rfl, .ty _, (Ty.tup ht).x, isaN (by simp [My.six]) (by simp [My.six]), _, rfl, ifFa (by decide) ⟨_, rfl, _, _, rfl, .inr ⟨_, ht, rfl⟩, rfl, _, rfl, ifND (fun z => absurd rfl z) (fun _ => ?_)⟩⟩
      refine ⟨_, rfl, _, _, _, _, rfl, rfl, ht, at0, rfl, _, rfl, ifND (fun z => absurd rfl z) (fun _ => ?_)⟩
      refine ⟨_, rfl, _, rfl, _, _, rfl, ht, fun z => absurd (show (1 : Nat) = 0 from z.1) (by decide), fun s1 w1 => ?_⟩
      have parts : ∀ y, (y = q1 ∨ y = r1) → ∃ n d : Int, SqT K H6 y [.int n, .int d] ∧ 0 < d ∧ Nat.gcd n.natAbs d.natAbs = 1 ∧ n.natAbs ≤ 2 ^ 36 ∧ d.natAbs ≤ 2 ^ 24 := by
        rintro y (rfl | rfl)
        · exact ⟨N, D, hx, P1, O1, x1, x2⟩
        · exact ⟨M, E', hy, P2, O2, x3, x4⟩
      refine ⟨_, rfl, ⟨_, tHere⟩, for_tup (K := K) (a := s1) (xs := [.ref q1, .ref r1]) (fun i σ' H' => Same H6 H' ∧ SqT K H' s1 [.ref q1, .ref r1] ∧ ∃ v6 : Option V, σ' = [some (.ref w0), some (.ref s), some (.ref g), some (.ref h), some (.ref q), some (.ref p1), v6, none]) ⟨same_new w1, tHere, none, rfl⟩ (fun i σ' H' _ z => z.2.1) ?_ ?_⟩
      · rintro i x σ' H' hxx ⟨es, hs1, v6, rfl⟩
        have hi : i < 2 := (List.getElem?_eq_some_iff.mp hxx).1
        obtain ⟨y, rfl, hyy⟩ : ∃ y, x = V.ref y ∧ (y = q1 ∨ y = r1) := by
          rcases (show i = 0 ∨ i = 1 by omega) with rfl | rfl <;> cases hxx
          · exact ⟨q1, rfl, .inl rfl⟩
          · exact ⟨r1, rfl, .inr rfl⟩
        obtain ⟨n, d, hp0, d0, o1, b1, b2⟩ := parts y hyy
        have hp := tSame es hp0
        refine ⟨_, rfl, _, _, _, _, _, rfl, .ty _, (Ty.tup hp).x, isaN (by simp [My.six]) (by simp [My.six]), _, rfl, ifFa (by decide) ⟨_, rfl, _, _, rfl, .inr ⟨_, hp, rfl⟩, rfl, _, rfl, ifND (fun z => absurd rfl z) (fun _ => ?_)⟩⟩
        refine ⟨_, rfl, _, rfl, ⟨_, hp⟩, fun D1 hD => lc_tup (K := K) (a := y) (xs := [.int n, .int d]) (fun j H'' => Same H' H'' ∧ H'' D1 = some (.lst ((List.replicate j true).map V.bl))) ⟨same_new hD, upd_same⟩ (fun j H'' _ z => tSame z.1 hp) ?_ ?_⟩
        · rintro j x H'' hxj ⟨es2, hD1⟩
          have hj : j < 2 := (List.getElem?_eq_some_iff.mp hxj).1
          refine ⟨rfl, ?_⟩
          obtain ⟨m, rfl⟩ : ∃ m, x = V.int m := by
            rcases (show j = 0 ∨ j = 1 by omega) with rfl | rfl <;> cases hxj
            · exact ⟨_, rfl⟩
            · exact ⟨_, rfl⟩
          exact ⟨_, rfl, _, _, rfl, .int _, _, hD1, by rw [List.length_map, List.length_replicate]; exact line_of (by omega), Same.put hD es2, by rw [upd_same, List.replicate_succ', List.map_append]; rfl⟩
        rintro H'' ⟨es2, hD1⟩
        refine ⟨_, _, rfl, SqL.of hD1, ?_⟩
        have hp := tSame es2 hp
        refine ⟨_, rfl, ifFa rfl ?_⟩
        refine ⟨_, rfl, _, _, _, _, rfl, rfl, hp, at1, _, _, rfl, rfl, _, rfl, ifD (fun z => absurd z (by omega)) (fun _ => ?_)⟩
        refine ⟨_, rfl, _, _, _, _, rfl, rfl, hp, at0, _, rfl, _, _, _, _, rfl, rfl, hp, at1, _, _, rfl, (by omega), pow_up b1, pow_up b2, fun t wt => ?_⟩
        refine ⟨_, rfl, _, _, _, _, _, _, rfl, rfl, tHere, tOver wt hp, _, rfl, ifND (fun z => absurd (low_self d0 o1) z) (fun _ => ?_)⟩
        exact ⟨(es.trans es2).trans (same_new wt), tSame (es2.trans (same_new wt)) hs1, _, rfl⟩
      rintro σ' H' ⟨es, -, v6, rfl⟩
      have ht := tSame es ht
      have hx := tSame es hx
      have hy := tSame es hy
      have hg := hg.same es
      have hh := hh.same es
      refine ⟨_, rfl, _, _, _, _, rfl, rfl, ht, at1, _, rfl, _, _, _, _, rfl, rfl, ht, at2, _, rfl, _, _, _, _, _, _, _, _, _, _, _, _, _,  rfl, hx, hy, hg, P1, P2, ⟨pow_up x1, pow_up x2, pow_up x3, pow_up x4⟩, g1, fun H8 e8 => ?_⟩
      have ht := tSame e8 ht
      have hx := tSame e8 hx
      have hy := tSame e8 hy
      have hh := hh.same e8
      refine ⟨_, rfl, ?_⟩
      exact ⟨_, rfl, _, _, _, _, rfl, rfl, ht, at1, _, rfl, _, _, _, _, rfl, rfl, ht, at2, _, rfl, _, _, _, _, _, _, _, _, _, _, _, _, _,  rfl, hx, hy, hh, P1, P2, ⟨pow_up x1, pow_up x2, pow_up x3, pow_up x4⟩, g2, fun H9 _ => k H9⟩

end
theorem all_mk {l : PySem.W.OpenLaw} {w : World} {K : PySem.W.Frag} {h : Heap} {mg : Str → Option Value} {fa : Addr} (X : K.In h) (G : h.Ns mainGlobals mg) (hfa : mg "law" = some (.ref fa))
    {od_is_whole an_is_whole : Option Addr} {sl_is_whole : Array (Option Value)} {oc_is_whole kV_is_whole dc_is_whole pm_is_whole cd_is_whole ct_is_whole : Value} {f_is_whole : Addr}
    (a_is_whole : PySem.W.nsIn K mainGlobals "is_whole" = some (some (.ref f_is_whole)))
    (l_is_whole : K.lookup f_is_whole = some ⟨oc_is_whole, od_is_whole, .func (PySem.W.fnOf "is_whole" "is_whole" (defArgs s_is_whole) (defBody s_is_whole) (defScope s_is_whole) .none kV_is_whole dc_is_whole pm_is_whole an_is_whole cd_is_whole ct_is_whole), sl_is_whole⟩)
    (c_is_whole : PySem.W.codeIn K cd_is_whole "is_whole" = true) (k_is_whole : PySem.W.keepIn K (.ref f_is_whole) = true)
    {od_is_pair an_is_pair : Option Addr} {sl_is_pair : Array (Option Value)} {oc_is_pair kV_is_pair dc_is_pair pm_is_pair cd_is_pair ct_is_pair : Value} {f_is_pair : Addr}
    (a_is_pair : PySem.W.nsIn K mainGlobals "is_pair" = some (some (.ref f_is_pair)))
    (l_is_pair : K.lookup f_is_pair = some ⟨oc_is_pair, od_is_pair, .func (PySem.W.fnOf "is_pair" "is_pair" (defArgs s_is_pair) (defBody s_is_pair) (defScope s_is_pair) .none kV_is_pair dc_is_pair pm_is_pair an_is_pair cd_is_pair ct_is_pair), sl_is_pair⟩)
    (c_is_pair : PySem.W.codeIn K cd_is_pair "is_pair" = true) (k_is_pair : PySem.W.keepIn K (.ref f_is_pair) = true)
    {od_need an_need : Option Addr} {sl_need : Array (Option Value)} {oc_need kV_need dc_need pm_need cd_need ct_need : Value} {f_need : Addr}
    (a_need : PySem.W.nsIn K mainGlobals "need" = some (some (.ref f_need)))
    (l_need : K.lookup f_need = some ⟨oc_need, od_need, .func (PySem.W.fnOf "need" "need" (defArgs s_need) (defBody s_need) (defScope s_need) .none kV_need dc_need pm_need an_need cd_need ct_need), sl_need⟩)
    (c_need : PySem.W.codeIn K cd_need "need" = true) (k_need : PySem.W.keepIn K (.ref f_need) = true)
    {od_lowest an_lowest : Option Addr} {sl_lowest : Array (Option Value)} {oc_lowest kV_lowest dc_lowest pm_lowest cd_lowest ct_lowest : Value} {f_lowest : Addr}
    (a_lowest : PySem.W.nsIn K mainGlobals "lowest" = some (some (.ref f_lowest)))
    (l_lowest : K.lookup f_lowest = some ⟨oc_lowest, od_lowest, .func (PySem.W.fnOf "lowest" "lowest" (defArgs s_lowest) (defBody s_lowest) (defScope s_lowest) .none kV_lowest dc_lowest pm_lowest an_lowest cd_lowest ct_lowest), sl_lowest⟩)
    (c_lowest : PySem.W.codeIn K cd_lowest "lowest" = true) (k_lowest : PySem.W.keepIn K (.ref f_lowest) = true)
    {od_is_coordinate an_is_coordinate : Option Addr} {sl_is_coordinate : Array (Option Value)} {oc_is_coordinate kV_is_coordinate dc_is_coordinate pm_is_coordinate cd_is_coordinate ct_is_coordinate : Value} {f_is_coordinate : Addr}
    (a_is_coordinate : PySem.W.nsIn K mainGlobals "is_coordinate" = some (some (.ref f_is_coordinate)))
    (l_is_coordinate : K.lookup f_is_coordinate = some ⟨oc_is_coordinate, od_is_coordinate, .func (PySem.W.fnOf "is_coordinate" "is_coordinate" (defArgs s_is_coordinate) (defBody s_is_coordinate) (defScope s_is_coordinate) .none kV_is_coordinate dc_is_coordinate pm_is_coordinate an_is_coordinate cd_is_coordinate ct_is_coordinate), sl_is_coordinate⟩)
    (c_is_coordinate : PySem.W.codeIn K cd_is_coordinate "is_coordinate" = true) (k_is_coordinate : PySem.W.keepIn K (.ref f_is_coordinate) = true)
    {od_is_point an_is_point : Option Addr} {sl_is_point : Array (Option Value)} {oc_is_point kV_is_point dc_is_point pm_is_point cd_is_point ct_is_point : Value} {f_is_point : Addr}
    (a_is_point : PySem.W.nsIn K mainGlobals "is_point" = some (some (.ref f_is_point)))
    (l_is_point : K.lookup f_is_point = some ⟨oc_is_point, od_is_point, .func (PySem.W.fnOf "is_point" "is_point" (defArgs s_is_point) (defBody s_is_point) (defScope s_is_point) .none kV_is_point dc_is_point pm_is_point an_is_point cd_is_point ct_is_point), sl_is_point⟩)
    (c_is_point : PySem.W.codeIn K cd_is_point "is_point" = true) (k_is_point : PySem.W.keepIn K (.ref f_is_point) = true)
    {od_is_segment an_is_segment : Option Addr} {sl_is_segment : Array (Option Value)} {oc_is_segment kV_is_segment dc_is_segment pm_is_segment cd_is_segment ct_is_segment : Value} {f_is_segment : Addr}
    (a_is_segment : PySem.W.nsIn K mainGlobals "is_segment" = some (some (.ref f_is_segment)))
    (l_is_segment : K.lookup f_is_segment = some ⟨oc_is_segment, od_is_segment, .func (PySem.W.fnOf "is_segment" "is_segment" (defArgs s_is_segment) (defBody s_is_segment) (defScope s_is_segment) .none kV_is_segment dc_is_segment pm_is_segment an_is_segment cd_is_segment ct_is_segment), sl_is_segment⟩)
    (c_is_segment : PySem.W.codeIn K cd_is_segment "is_segment" = true) (k_is_segment : PySem.W.keepIn K (.ref f_is_segment) = true)
    {od_turn_of an_turn_of : Option Addr} {sl_turn_of : Array (Option Value)} {oc_turn_of kV_turn_of dc_turn_of pm_turn_of cd_turn_of ct_turn_of : Value} {f_turn_of : Addr}
    (a_turn_of : PySem.W.nsIn K mainGlobals "turn_of" = some (some (.ref f_turn_of)))
    (l_turn_of : K.lookup f_turn_of = some ⟨oc_turn_of, od_turn_of, .func (PySem.W.fnOf "turn_of" "turn_of" (defArgs s_turn_of) (defBody s_turn_of) (defScope s_turn_of) .none kV_turn_of dc_turn_of pm_turn_of an_turn_of cd_turn_of ct_turn_of), sl_turn_of⟩)
    (c_turn_of : PySem.W.codeIn K cd_turn_of "turn_of" = true) (k_turn_of : PySem.W.keepIn K (.ref f_turn_of) = true)
    {od_is_on an_is_on : Option Addr} {sl_is_on : Array (Option Value)} {oc_is_on kV_is_on dc_is_on pm_is_on cd_is_on ct_is_on : Value} {f_is_on : Addr}
    (a_is_on : PySem.W.nsIn K mainGlobals "is_on" = some (some (.ref f_is_on)))
    (l_is_on : K.lookup f_is_on = some ⟨oc_is_on, od_is_on, .func (PySem.W.fnOf "is_on" "is_on" (defArgs s_is_on) (defBody s_is_on) (defScope s_is_on) .none kV_is_on dc_is_on pm_is_on an_is_on cd_is_on ct_is_on), sl_is_on⟩)
    (c_is_on : PySem.W.codeIn K cd_is_on "is_on" = true) (k_is_on : PySem.W.keepIn K (.ref f_is_on) = true)
    {od_are_apart an_are_apart : Option Addr} {sl_are_apart : Array (Option Value)} {oc_are_apart kV_are_apart dc_are_apart pm_are_apart cd_are_apart ct_are_apart : Value} {f_are_apart : Addr}
    (a_are_apart : PySem.W.nsIn K mainGlobals "are_apart" = some (some (.ref f_are_apart)))
    (l_are_apart : K.lookup f_are_apart = some ⟨oc_are_apart, od_are_apart, .func (PySem.W.fnOf "are_apart" "are_apart" (defArgs s_are_apart) (defBody s_are_apart) (defScope s_are_apart) .none kV_are_apart dc_are_apart pm_are_apart an_are_apart cd_are_apart ct_are_apart), sl_are_apart⟩)
    (c_are_apart : PySem.W.codeIn K cd_are_apart "are_apart" = true) (k_are_apart : PySem.W.keepIn K (.ref f_are_apart) = true)
    {od_meeting_on_line an_meeting_on_line : Option Addr} {sl_meeting_on_line : Array (Option Value)} {oc_meeting_on_line kV_meeting_on_line dc_meeting_on_line pm_meeting_on_line cd_meeting_on_line ct_meeting_on_line : Value} {f_meeting_on_line : Addr}
    (a_meeting_on_line : PySem.W.nsIn K mainGlobals "meeting_on_line" = some (some (.ref f_meeting_on_line)))
    (l_meeting_on_line : K.lookup f_meeting_on_line = some ⟨oc_meeting_on_line, od_meeting_on_line, .func (PySem.W.fnOf "meeting_on_line" "meeting_on_line" (defArgs s_meeting_on_line) (defBody s_meeting_on_line) (defScope s_meeting_on_line) .none kV_meeting_on_line dc_meeting_on_line pm_meeting_on_line an_meeting_on_line cd_meeting_on_line ct_meeting_on_line), sl_meeting_on_line⟩)
    (c_meeting_on_line : PySem.W.codeIn K cd_meeting_on_line "meeting_on_line" = true) (k_meeting_on_line : PySem.W.keepIn K (.ref f_meeting_on_line) = true)
    {od_common_end an_common_end : Option Addr} {sl_common_end : Array (Option Value)} {oc_common_end kV_common_end dc_common_end pm_common_end cd_common_end ct_common_end : Value} {f_common_end : Addr}
    (a_common_end : PySem.W.nsIn K mainGlobals "common_end" = some (some (.ref f_common_end)))
    (l_common_end : K.lookup f_common_end = some ⟨oc_common_end, od_common_end, .func (PySem.W.fnOf "common_end" "common_end" (defArgs s_common_end) (defBody s_common_end) (defScope s_common_end) .none kV_common_end dc_common_end pm_common_end an_common_end cd_common_end ct_common_end), sl_common_end⟩)
    (c_common_end : PySem.W.codeIn K cd_common_end "common_end" = true) (k_common_end : PySem.W.keepIn K (.ref f_common_end) = true)
    {od_cut_point an_cut_point : Option Addr} {sl_cut_point : Array (Option Value)} {oc_cut_point kV_cut_point dc_cut_point pm_cut_point cd_cut_point ct_cut_point : Value} {f_cut_point : Addr}
    (a_cut_point : PySem.W.nsIn K mainGlobals "cut_point" = some (some (.ref f_cut_point)))
    (l_cut_point : K.lookup f_cut_point = some ⟨oc_cut_point, od_cut_point, .func (PySem.W.fnOf "cut_point" "cut_point" (defArgs s_cut_point) (defBody s_cut_point) (defScope s_cut_point) .none kV_cut_point dc_cut_point pm_cut_point an_cut_point cd_cut_point ct_cut_point), sl_cut_point⟩)
    (c_cut_point : PySem.W.codeIn K cd_cut_point "cut_point" = true) (k_cut_point : PySem.W.keepIn K (.ref f_cut_point) = true)
    {od_meeting_of an_meeting_of : Option Addr} {sl_meeting_of : Array (Option Value)} {oc_meeting_of kV_meeting_of dc_meeting_of pm_meeting_of cd_meeting_of ct_meeting_of : Value} {f_meeting_of : Addr}
    (a_meeting_of : PySem.W.nsIn K mainGlobals "meeting_of" = some (some (.ref f_meeting_of)))
    (l_meeting_of : K.lookup f_meeting_of = some ⟨oc_meeting_of, od_meeting_of, .func (PySem.W.fnOf "meeting_of" "meeting_of" (defArgs s_meeting_of) (defBody s_meeting_of) (defScope s_meeting_of) .none kV_meeting_of dc_meeting_of pm_meeting_of an_meeting_of cd_meeting_of ct_meeting_of), sl_meeting_of⟩)
    (c_meeting_of : PySem.W.codeIn K cd_meeting_of "meeting_of" = true) (k_meeting_of : PySem.W.keepIn K (.ref f_meeting_of) = true)
    {od_meeting an_meeting : Option Addr} {sl_meeting : Array (Option Value)} {oc_meeting kV_meeting dc_meeting pm_meeting cd_meeting ct_meeting : Value} {f_meeting : Addr}
    (a_meeting : PySem.W.nsIn K mainGlobals "meeting" = some (some (.ref f_meeting)))
    (l_meeting : K.lookup f_meeting = some ⟨oc_meeting, od_meeting, .func (PySem.W.fnOf "meeting" "meeting" (defArgs s_meeting) (defBody s_meeting) (defScope s_meeting) .none kV_meeting dc_meeting pm_meeting an_meeting cd_meeting ct_meeting), sl_meeting⟩)
    (c_meeting : PySem.W.codeIn K cd_meeting "meeting" = true) (k_meeting : PySem.W.keepIn K (.ref f_meeting) = true)
    {od__law_stream an__law_stream : Option Addr} {sl__law_stream : Array (Option Value)} {oc__law_stream kV__law_stream dc__law_stream pm__law_stream cd__law_stream ct__law_stream : Value} {f__law_stream : Addr}
    (a__law_stream : PySem.W.nsIn K mainGlobals "_law_stream" = some (some (.ref f__law_stream)))
    (l__law_stream : K.lookup f__law_stream = some ⟨oc__law_stream, od__law_stream, .func (PySem.W.fnOf "_law_stream" "_law_stream" (defArgs s__law_stream) (defBody s__law_stream) (defScope s__law_stream) .none kV__law_stream dc__law_stream pm__law_stream an__law_stream cd__law_stream ct__law_stream), sl__law_stream⟩)
    (c__law_stream : PySem.W.codeIn K cd__law_stream "_law_stream" = true) (k__law_stream : PySem.W.keepIn K (.ref f__law_stream) = true)
    {od__law_next an__law_next : Option Addr} {sl__law_next : Array (Option Value)} {oc__law_next kV__law_next dc__law_next pm__law_next cd__law_next ct__law_next : Value} {f__law_next : Addr}
    (a__law_next : PySem.W.nsIn K mainGlobals "_law_next" = some (some (.ref f__law_next)))
    (l__law_next : K.lookup f__law_next = some ⟨oc__law_next, od__law_next, .func (PySem.W.fnOf "_law_next" "_law_next" (defArgs s__law_next) (defBody s__law_next) (defScope s__law_next) .none kV__law_next dc__law_next pm__law_next an__law_next cd__law_next ct__law_next), sl__law_next⟩)
    (c__law_next : PySem.W.codeIn K cd__law_next "_law_next" = true) (k__law_next : PySem.W.keepIn K (.ref f__law_next) = true)
    {od__law_is_integer an__law_is_integer : Option Addr} {sl__law_is_integer : Array (Option Value)} {oc__law_is_integer kV__law_is_integer dc__law_is_integer pm__law_is_integer cd__law_is_integer ct__law_is_integer : Value} {f__law_is_integer : Addr}
    (a__law_is_integer : PySem.W.nsIn K mainGlobals "_law_is_integer" = some (some (.ref f__law_is_integer)))
    (l__law_is_integer : K.lookup f__law_is_integer = some ⟨oc__law_is_integer, od__law_is_integer, .func (PySem.W.fnOf "_law_is_integer" "_law_is_integer" (defArgs s__law_is_integer) (defBody s__law_is_integer) (defScope s__law_is_integer) .none kV__law_is_integer dc__law_is_integer pm__law_is_integer an__law_is_integer cd__law_is_integer ct__law_is_integer), sl__law_is_integer⟩)
    (c__law_is_integer : PySem.W.codeIn K cd__law_is_integer "_law_is_integer" = true) (k__law_is_integer : PySem.W.keepIn K (.ref f__law_is_integer) = true)
    {od__law_gcd an__law_gcd : Option Addr} {sl__law_gcd : Array (Option Value)} {oc__law_gcd kV__law_gcd dc__law_gcd pm__law_gcd cd__law_gcd ct__law_gcd : Value} {f__law_gcd : Addr}
    (a__law_gcd : PySem.W.nsIn K mainGlobals "_law_gcd" = some (some (.ref f__law_gcd)))
    (l__law_gcd : K.lookup f__law_gcd = some ⟨oc__law_gcd, od__law_gcd, .func (PySem.W.fnOf "_law_gcd" "_law_gcd" (defArgs s__law_gcd) (defBody s__law_gcd) (defScope s__law_gcd) .none kV__law_gcd dc__law_gcd pm__law_gcd an__law_gcd cd__law_gcd ct__law_gcd), sl__law_gcd⟩)
    (c__law_gcd : PySem.W.codeIn K cd__law_gcd "_law_gcd" = true) (k__law_gcd : PySem.W.keepIn K (.ref f__law_gcd) = true)
    {od__law_low an__law_low : Option Addr} {sl__law_low : Array (Option Value)} {oc__law_low kV__law_low dc__law_low pm__law_low cd__law_low ct__law_low : Value} {f__law_low : Addr}
    (a__law_low : PySem.W.nsIn K mainGlobals "_law_low" = some (some (.ref f__law_low)))
    (l__law_low : K.lookup f__law_low = some ⟨oc__law_low, od__law_low, .func (PySem.W.fnOf "_law_low" "_law_low" (defArgs s__law_low) (defBody s__law_low) (defScope s__law_low) .none kV__law_low dc__law_low pm__law_low an__law_low cd__law_low ct__law_low), sl__law_low⟩)
    (c__law_low : PySem.W.codeIn K cd__law_low "_law_low" = true) (k__law_low : PySem.W.keepIn K (.ref f__law_low) = true)
    {od__law_plus an__law_plus : Option Addr} {sl__law_plus : Array (Option Value)} {oc__law_plus kV__law_plus dc__law_plus pm__law_plus cd__law_plus ct__law_plus : Value} {f__law_plus : Addr}
    (a__law_plus : PySem.W.nsIn K mainGlobals "_law_plus" = some (some (.ref f__law_plus)))
    (l__law_plus : K.lookup f__law_plus = some ⟨oc__law_plus, od__law_plus, .func (PySem.W.fnOf "_law_plus" "_law_plus" (defArgs s__law_plus) (defBody s__law_plus) (defScope s__law_plus) .none kV__law_plus dc__law_plus pm__law_plus an__law_plus cd__law_plus ct__law_plus), sl__law_plus⟩)
    (c__law_plus : PySem.W.codeIn K cd__law_plus "_law_plus" = true) (k__law_plus : PySem.W.keepIn K (.ref f__law_plus) = true)
    {od__law_times an__law_times : Option Addr} {sl__law_times : Array (Option Value)} {oc__law_times kV__law_times dc__law_times pm__law_times cd__law_times ct__law_times : Value} {f__law_times : Addr}
    (a__law_times : PySem.W.nsIn K mainGlobals "_law_times" = some (some (.ref f__law_times)))
    (l__law_times : K.lookup f__law_times = some ⟨oc__law_times, od__law_times, .func (PySem.W.fnOf "_law_times" "_law_times" (defArgs s__law_times) (defBody s__law_times) (defScope s__law_times) .none kV__law_times dc__law_times pm__law_times an__law_times cd__law_times ct__law_times), sl__law_times⟩)
    (c__law_times : PySem.W.codeIn K cd__law_times "_law_times" = true) (k__law_times : PySem.W.keepIn K (.ref f__law_times) = true)
    {od__law_equal an__law_equal : Option Addr} {sl__law_equal : Array (Option Value)} {oc__law_equal kV__law_equal dc__law_equal pm__law_equal cd__law_equal ct__law_equal : Value} {f__law_equal : Addr}
    (a__law_equal : PySem.W.nsIn K mainGlobals "_law_equal" = some (some (.ref f__law_equal)))
    (l__law_equal : K.lookup f__law_equal = some ⟨oc__law_equal, od__law_equal, .func (PySem.W.fnOf "_law_equal" "_law_equal" (defArgs s__law_equal) (defBody s__law_equal) (defScope s__law_equal) .none kV__law_equal dc__law_equal pm__law_equal an__law_equal cd__law_equal ct__law_equal), sl__law_equal⟩)
    (c__law_equal : PySem.W.codeIn K cd__law_equal "_law_equal" = true) (k__law_equal : PySem.W.keepIn K (.ref f__law_equal) = true)
    {od__law_turn an__law_turn : Option Addr} {sl__law_turn : Array (Option Value)} {oc__law_turn kV__law_turn dc__law_turn pm__law_turn cd__law_turn ct__law_turn : Value} {f__law_turn : Addr}
    (a__law_turn : PySem.W.nsIn K mainGlobals "_law_turn" = some (some (.ref f__law_turn)))
    (l__law_turn : K.lookup f__law_turn = some ⟨oc__law_turn, od__law_turn, .func (PySem.W.fnOf "_law_turn" "_law_turn" (defArgs s__law_turn) (defBody s__law_turn) (defScope s__law_turn) .none kV__law_turn dc__law_turn pm__law_turn an__law_turn cd__law_turn ct__law_turn), sl__law_turn⟩)
    (c__law_turn : PySem.W.codeIn K cd__law_turn "_law_turn" = true) (k__law_turn : PySem.W.keepIn K (.ref f__law_turn) = true)
    {od__law_sign an__law_sign : Option Addr} {sl__law_sign : Array (Option Value)} {oc__law_sign kV__law_sign dc__law_sign pm__law_sign cd__law_sign ct__law_sign : Value} {f__law_sign : Addr}
    (a__law_sign : PySem.W.nsIn K mainGlobals "_law_sign" = some (some (.ref f__law_sign)))
    (l__law_sign : K.lookup f__law_sign = some ⟨oc__law_sign, od__law_sign, .func (PySem.W.fnOf "_law_sign" "_law_sign" (defArgs s__law_sign) (defBody s__law_sign) (defScope s__law_sign) .none kV__law_sign dc__law_sign pm__law_sign an__law_sign cd__law_sign ct__law_sign), sl__law_sign⟩)
    (c__law_sign : PySem.W.codeIn K cd__law_sign "_law_sign" = true) (k__law_sign : PySem.W.keepIn K (.ref f__law_sign) = true)
    {od__law_between an__law_between : Option Addr} {sl__law_between : Array (Option Value)} {oc__law_between kV__law_between dc__law_between pm__law_between cd__law_between ct__law_between : Value} {f__law_between : Addr}
    (a__law_between : PySem.W.nsIn K mainGlobals "_law_between" = some (some (.ref f__law_between)))
    (l__law_between : K.lookup f__law_between = some ⟨oc__law_between, od__law_between, .func (PySem.W.fnOf "_law_between" "_law_between" (defArgs s__law_between) (defBody s__law_between) (defScope s__law_between) .none kV__law_between dc__law_between pm__law_between an__law_between cd__law_between ct__law_between), sl__law_between⟩)
    (c__law_between : PySem.W.codeIn K cd__law_between "_law_between" = true) (k__law_between : PySem.W.keepIn K (.ref f__law_between) = true)
    {od__law_point an__law_point : Option Addr} {sl__law_point : Array (Option Value)} {oc__law_point kV__law_point dc__law_point pm__law_point cd__law_point ct__law_point : Value} {f__law_point : Addr}
    (a__law_point : PySem.W.nsIn K mainGlobals "_law_point" = some (some (.ref f__law_point)))
    (l__law_point : K.lookup f__law_point = some ⟨oc__law_point, od__law_point, .func (PySem.W.fnOf "_law_point" "_law_point" (defArgs s__law_point) (defBody s__law_point) (defScope s__law_point) .none kV__law_point dc__law_point pm__law_point an__law_point cd__law_point ct__law_point), sl__law_point⟩)
    (c__law_point : PySem.W.codeIn K cd__law_point "_law_point" = true) (k__law_point : PySem.W.keepIn K (.ref f__law_point) = true)
    {od__law_far an__law_far : Option Addr} {sl__law_far : Array (Option Value)} {oc__law_far kV__law_far dc__law_far pm__law_far cd__law_far ct__law_far : Value} {f__law_far : Addr}
    (a__law_far : PySem.W.nsIn K mainGlobals "_law_far" = some (some (.ref f__law_far)))
    (l__law_far : K.lookup f__law_far = some ⟨oc__law_far, od__law_far, .func (PySem.W.fnOf "_law_far" "_law_far" (defArgs s__law_far) (defBody s__law_far) (defScope s__law_far) .none kV__law_far dc__law_far pm__law_far an__law_far cd__law_far ct__law_far), sl__law_far⟩)
    (c__law_far : PySem.W.codeIn K cd__law_far "_law_far" = true) (k__law_far : PySem.W.keepIn K (.ref f__law_far) = true)
    {od__law_segment an__law_segment : Option Addr} {sl__law_segment : Array (Option Value)} {oc__law_segment kV__law_segment dc__law_segment pm__law_segment cd__law_segment ct__law_segment : Value} {f__law_segment : Addr}
    (a__law_segment : PySem.W.nsIn K mainGlobals "_law_segment" = some (some (.ref f__law_segment)))
    (l__law_segment : K.lookup f__law_segment = some ⟨oc__law_segment, od__law_segment, .func (PySem.W.fnOf "_law_segment" "_law_segment" (defArgs s__law_segment) (defBody s__law_segment) (defScope s__law_segment) .none kV__law_segment dc__law_segment pm__law_segment an__law_segment cd__law_segment ct__law_segment), sl__law_segment⟩)
    (c__law_segment : PySem.W.codeIn K cd__law_segment "_law_segment" = true) (k__law_segment : PySem.W.keepIn K (.ref f__law_segment) = true)
    {od__law_ends an__law_ends : Option Addr} {sl__law_ends : Array (Option Value)} {oc__law_ends kV__law_ends dc__law_ends pm__law_ends cd__law_ends ct__law_ends : Value} {f__law_ends : Addr}
    (a__law_ends : PySem.W.nsIn K mainGlobals "_law_ends" = some (some (.ref f__law_ends)))
    (l__law_ends : K.lookup f__law_ends = some ⟨oc__law_ends, od__law_ends, .func (PySem.W.fnOf "_law_ends" "_law_ends" (defArgs s__law_ends) (defBody s__law_ends) (defScope s__law_ends) .none kV__law_ends dc__law_ends pm__law_ends an__law_ends cd__law_ends ct__law_ends), sl__law_ends⟩)
    (c__law_ends : PySem.W.codeIn K cd__law_ends "_law_ends" = true) (k__law_ends : PySem.W.keepIn K (.ref f__law_ends) = true)
    {od__law_apart an__law_apart : Option Addr} {sl__law_apart : Array (Option Value)} {oc__law_apart kV__law_apart dc__law_apart pm__law_apart cd__law_apart ct__law_apart : Value} {f__law_apart : Addr}
    (a__law_apart : PySem.W.nsIn K mainGlobals "_law_apart" = some (some (.ref f__law_apart)))
    (l__law_apart : K.lookup f__law_apart = some ⟨oc__law_apart, od__law_apart, .func (PySem.W.fnOf "_law_apart" "_law_apart" (defArgs s__law_apart) (defBody s__law_apart) (defScope s__law_apart) .none kV__law_apart dc__law_apart pm__law_apart an__law_apart cd__law_apart ct__law_apart), sl__law_apart⟩)
    (c__law_apart : PySem.W.codeIn K cd__law_apart "_law_apart" = true) (k__law_apart : PySem.W.keepIn K (.ref f__law_apart) = true)
    {od__law_is_on_line an__law_is_on_line : Option Addr} {sl__law_is_on_line : Array (Option Value)} {oc__law_is_on_line kV__law_is_on_line dc__law_is_on_line pm__law_is_on_line cd__law_is_on_line ct__law_is_on_line : Value} {f__law_is_on_line : Addr}
    (a__law_is_on_line : PySem.W.nsIn K mainGlobals "_law_is_on_line" = some (some (.ref f__law_is_on_line)))
    (l__law_is_on_line : K.lookup f__law_is_on_line = some ⟨oc__law_is_on_line, od__law_is_on_line, .func (PySem.W.fnOf "_law_is_on_line" "_law_is_on_line" (defArgs s__law_is_on_line) (defBody s__law_is_on_line) (defScope s__law_is_on_line) .none kV__law_is_on_line dc__law_is_on_line pm__law_is_on_line an__law_is_on_line cd__law_is_on_line ct__law_is_on_line), sl__law_is_on_line⟩)
    (c__law_is_on_line : PySem.W.codeIn K cd__law_is_on_line "_law_is_on_line" = true) (k__law_is_on_line : PySem.W.keepIn K (.ref f__law_is_on_line) = true)
    {od__law_pair an__law_pair : Option Addr} {sl__law_pair : Array (Option Value)} {oc__law_pair kV__law_pair dc__law_pair pm__law_pair cd__law_pair ct__law_pair : Value} {f__law_pair : Addr}
    (a__law_pair : PySem.W.nsIn K mainGlobals "_law_pair" = some (some (.ref f__law_pair)))
    (l__law_pair : K.lookup f__law_pair = some ⟨oc__law_pair, od__law_pair, .func (PySem.W.fnOf "_law_pair" "_law_pair" (defArgs s__law_pair) (defBody s__law_pair) (defScope s__law_pair) .none kV__law_pair dc__law_pair pm__law_pair an__law_pair cd__law_pair ct__law_pair), sl__law_pair⟩)
    (c__law_pair : PySem.W.codeIn K cd__law_pair "_law_pair" = true) (k__law_pair : PySem.W.keepIn K (.ref f__law_pair) = true)
    {od_law an_law : Option Addr} {sl_law : Array (Option Value)} {oc_law kV_law dc_law pm_law cd_law ct_law : Value} {f_law : Addr}
    (a_law : PySem.W.nsIn K mainGlobals "law" = some (some (.ref f_law)))
    (l_law : K.lookup f_law = some ⟨oc_law, od_law, .func (PySem.W.fnOf "law" "law" (defArgs s_law) (defBody s_law) (defScope s_law) .none kV_law dc_law pm_law an_law cd_law ct_law), sl_law⟩)
    (c_law : PySem.W.codeIn K cd_law "law" = true) (k_law : PySem.W.keepIn K (.ref f_law) = true)
    (z_abs : PySem.W.nsIn K mainGlobals "abs" = some none)
    (z_all : PySem.W.nsIn K mainGlobals "all" = some none)
    (z_bool : PySem.W.nsIn K mainGlobals "bool" = some none)
    (z_int : PySem.W.nsIn K mainGlobals "int" = some none)
    (z_isinstance : PySem.W.nsIn K mainGlobals "isinstance" = some none)
    (z_len : PySem.W.nsIn K mainGlobals "len" = some none)
    (z_list : PySem.W.nsIn K mainGlobals "list" = some none)
    (z_max : PySem.W.nsIn K mainGlobals "max" = some none)
    (z_min : PySem.W.nsIn K mainGlobals "min" = some none)
    (z_range : PySem.W.nsIn K mainGlobals "range" = some none)
    (z_sorted : PySem.W.nsIn K mainGlobals "sorted" = some none)
    (z_str : PySem.W.nsIn K mainGlobals "str" = some none)
    (z_tuple : PySem.W.nsIn K mainGlobals "tuple" = some none)
    {t_HIGHEST : Tok} (v_HIGHEST : PySem.W.nsIn K mainGlobals "HIGHEST" = some (some (.int (1000) t_HIGHEST)))
    {t_LOWEST : Tok} (v_LOWEST : PySem.W.nsIn K mainGlobals "LOWEST" = some (some (.int (-1000) t_LOWEST)))
    (z_gcd : PySem.W.nsIn K mainGlobals "gcd" = some (some (.builtin "math.gcd")))
    : ∃ fd : FuncData, (∀ (s : Shared) (v : Value), BindsTo s fd ⟨[v], []⟩ [("script", v)]) ∧ ∀ base : Heap, K.In base → base.Ns mainGlobals mg → FnOk l.prog w K mg base CX0 6 fa fd ["script"] (spLaw K) := by
  have e := hfa.symm.trans (PySem.W.mg_of X G a_law)
  cases e
  let T : Txt K mg := {
    a_is_whole := f_is_whole, d_is_whole := _, F_is_whole := fun_mk (st := s_is_whole) l_is_whole c_is_whole k_is_whole, m_is_whole := PySem.W.mg_of X G a_is_whole,
    b_is_whole := (fun_mk (st := s_is_whole) l_is_whole c_is_whole k_is_whole).binds (ps := ["value"]) fun _ _ _ _ _ _ us hl => match us, hl with | [_], _ => rfl,
    a_is_pair := f_is_pair, d_is_pair := _, F_is_pair := fun_mk (st := s_is_pair) l_is_pair c_is_pair k_is_pair, m_is_pair := PySem.W.mg_of X G a_is_pair,
    b_is_pair := (fun_mk (st := s_is_pair) l_is_pair c_is_pair k_is_pair).binds (ps := ["value"]) fun _ _ _ _ _ _ us hl => match us, hl with | [_], _ => rfl,
    a_need := f_need, d_need := _, F_need := fun_mk (st := s_need) l_need c_need k_need, m_need := PySem.W.mg_of X G a_need,
    b_need := (fun_mk (st := s_need) l_need c_need k_need).binds (ps := ["holds", "name"]) fun _ _ _ _ _ _ us hl => match us, hl with | [_, _], _ => rfl,
    a_lowest := f_lowest, d_lowest := _, F_lowest := fun_mk (st := s_lowest) l_lowest c_lowest k_lowest, m_lowest := PySem.W.mg_of X G a_lowest,
    b_lowest := (fun_mk (st := s_lowest) l_lowest c_lowest k_lowest).binds (ps := ["n", "d"]) fun _ _ _ _ _ _ us hl => match us, hl with | [_, _], _ => rfl,
    a_is_coordinate := f_is_coordinate, d_is_coordinate := _, F_is_coordinate := fun_mk (st := s_is_coordinate) l_is_coordinate c_is_coordinate k_is_coordinate, m_is_coordinate := PySem.W.mg_of X G a_is_coordinate,
    b_is_coordinate := (fun_mk (st := s_is_coordinate) l_is_coordinate c_is_coordinate k_is_coordinate).binds (ps := ["value"]) fun _ _ _ _ _ _ us hl => match us, hl with | [_], _ => rfl,
    a_is_point := f_is_point, d_is_point := _, F_is_point := fun_mk (st := s_is_point) l_is_point c_is_point k_is_point, m_is_point := PySem.W.mg_of X G a_is_point,
    b_is_point := (fun_mk (st := s_is_point) l_is_point c_is_point k_is_point).binds (ps := ["value"]) fun _ _ _ _ _ _ us hl => match us, hl with | [_], _ => rfl,
    a_is_segment := f_is_segment, d_is_segment := _, F_is_segment := fun_mk (st := s_is_segment) l_is_segment c_is_segment k_is_segment, m_is_segment := PySem.W.mg_of X G a_is_segment,
    b_is_segment := (fun_mk (st := s_is_segment) l_is_segment c_is_segment k_is_segment).binds (ps := ["value"]) fun _ _ _ _ _ _ us hl => match us, hl with | [_], _ => rfl,
    a_turn_of := f_turn_of, d_turn_of := _, F_turn_of := fun_mk (st := s_turn_of) l_turn_of c_turn_of k_turn_of, m_turn_of := PySem.W.mg_of X G a_turn_of,
    b_turn_of := (fun_mk (st := s_turn_of) l_turn_of c_turn_of k_turn_of).binds (ps := ["a", "b", "c"]) fun _ _ _ _ _ _ us hl => match us, hl with | [_, _, _], _ => rfl,
    a_is_on := f_is_on, d_is_on := _, F_is_on := fun_mk (st := s_is_on) l_is_on c_is_on k_is_on, m_is_on := PySem.W.mg_of X G a_is_on,
    b_is_on := (fun_mk (st := s_is_on) l_is_on c_is_on k_is_on).binds (ps := ["p", "segment"]) fun _ _ _ _ _ _ us hl => match us, hl with | [_, _], _ => rfl,
    a_are_apart := f_are_apart, d_are_apart := _, F_are_apart := fun_mk (st := s_are_apart) l_are_apart c_are_apart k_are_apart, m_are_apart := PySem.W.mg_of X G a_are_apart,
    b_are_apart := (fun_mk (st := s_are_apart) l_are_apart c_are_apart k_are_apart).binds (ps := ["first", "second"]) fun _ _ _ _ _ _ us hl => match us, hl with | [_, _], _ => rfl,
    a_meeting_on_line := f_meeting_on_line, d_meeting_on_line := _, F_meeting_on_line := fun_mk (st := s_meeting_on_line) l_meeting_on_line c_meeting_on_line k_meeting_on_line, m_meeting_on_line := PySem.W.mg_of X G a_meeting_on_line,
    b_meeting_on_line := (fun_mk (st := s_meeting_on_line) l_meeting_on_line c_meeting_on_line k_meeting_on_line).binds (ps := ["first", "second"]) fun _ _ _ _ _ _ us hl => match us, hl with | [_, _], _ => rfl,
    a_common_end := f_common_end, d_common_end := _, F_common_end := fun_mk (st := s_common_end) l_common_end c_common_end k_common_end, m_common_end := PySem.W.mg_of X G a_common_end,
    b_common_end := (fun_mk (st := s_common_end) l_common_end c_common_end k_common_end).binds (ps := ["first", "second"]) fun _ _ _ _ _ _ us hl => match us, hl with | [_, _], _ => rfl,
    a_cut_point := f_cut_point, d_cut_point := _, F_cut_point := fun_mk (st := s_cut_point) l_cut_point c_cut_point k_cut_point, m_cut_point := PySem.W.mg_of X G a_cut_point,
    b_cut_point := (fun_mk (st := s_cut_point) l_cut_point c_cut_point k_cut_point).binds (ps := ["first", "before", "after"]) fun _ _ _ _ _ _ us hl => match us, hl with | [_, _, _], _ => rfl,
    a_meeting_of := f_meeting_of, d_meeting_of := _, F_meeting_of := fun_mk (st := s_meeting_of) l_meeting_of c_meeting_of k_meeting_of, m_meeting_of := PySem.W.mg_of X G a_meeting_of,
    b_meeting_of := (fun_mk (st := s_meeting_of) l_meeting_of c_meeting_of k_meeting_of).binds (ps := ["first", "second"]) fun _ _ _ _ _ _ us hl => match us, hl with | [_, _], _ => rfl,
    a_meeting := f_meeting, d_meeting := _, F_meeting := fun_mk (st := s_meeting) l_meeting c_meeting k_meeting, m_meeting := PySem.W.mg_of X G a_meeting,
    b_meeting := (fun_mk (st := s_meeting) l_meeting c_meeting k_meeting).binds (ps := ["first", "second"]) fun _ _ _ _ _ _ us hl => match us, hl with | [_, _], _ => rfl,
    a__law_stream := f__law_stream, d__law_stream := _, F__law_stream := fun_mk (st := s__law_stream) l__law_stream c__law_stream k__law_stream, m__law_stream := PySem.W.mg_of X G a__law_stream,
    b__law_stream := (fun_mk (st := s__law_stream) l__law_stream c__law_stream k__law_stream).binds (ps := ["script"]) fun _ _ _ _ _ _ us hl => match us, hl with | [_], _ => rfl,
    a__law_next := f__law_next, d__law_next := _, F__law_next := fun_mk (st := s__law_next) l__law_next c__law_next k__law_next, m__law_next := PySem.W.mg_of X G a__law_next,
    b__law_next := (fun_mk (st := s__law_next) l__law_next c__law_next k__law_next).binds (ps := ["stream", "many"]) fun _ _ _ _ _ _ us hl => match us, hl with | [_, _], _ => rfl,
    a__law_is_integer := f__law_is_integer, d__law_is_integer := _, F__law_is_integer := fun_mk (st := s__law_is_integer) l__law_is_integer c__law_is_integer k__law_is_integer, m__law_is_integer := PySem.W.mg_of X G a__law_is_integer,
    b__law_is_integer := (fun_mk (st := s__law_is_integer) l__law_is_integer c__law_is_integer k__law_is_integer).binds (ps := ["actual"]) fun _ _ _ _ _ _ us hl => match us, hl with | [_], _ => rfl,
    a__law_gcd := f__law_gcd, d__law_gcd := _, F__law_gcd := fun_mk (st := s__law_gcd) l__law_gcd c__law_gcd k__law_gcd, m__law_gcd := PySem.W.mg_of X G a__law_gcd,
    b__law_gcd := (fun_mk (st := s__law_gcd) l__law_gcd c__law_gcd k__law_gcd).binds (ps := ["a", "b"]) fun _ _ _ _ _ _ us hl => match us, hl with | [_, _], _ => rfl,
    a__law_low := f__law_low, d__law_low := _, F__law_low := fun_mk (st := s__law_low) l__law_low c__law_low k__law_low, m__law_low := PySem.W.mg_of X G a__law_low,
    b__law_low := (fun_mk (st := s__law_low) l__law_low c__law_low k__law_low).binds (ps := ["n", "d"]) fun _ _ _ _ _ _ us hl => match us, hl with | [_, _], _ => rfl,
    a__law_plus := f__law_plus, d__law_plus := _, F__law_plus := fun_mk (st := s__law_plus) l__law_plus c__law_plus k__law_plus, m__law_plus := PySem.W.mg_of X G a__law_plus,
    b__law_plus := (fun_mk (st := s__law_plus) l__law_plus c__law_plus k__law_plus).binds (ps := ["a", "b"]) fun _ _ _ _ _ _ us hl => match us, hl with | [_, _], _ => rfl,
    a__law_times := f__law_times, d__law_times := _, F__law_times := fun_mk (st := s__law_times) l__law_times c__law_times k__law_times, m__law_times := PySem.W.mg_of X G a__law_times,
    b__law_times := (fun_mk (st := s__law_times) l__law_times c__law_times k__law_times).binds (ps := ["a", "b"]) fun _ _ _ _ _ _ us hl => match us, hl with | [_, _], _ => rfl,
    a__law_equal := f__law_equal, d__law_equal := _, F__law_equal := fun_mk (st := s__law_equal) l__law_equal c__law_equal k__law_equal, m__law_equal := PySem.W.mg_of X G a__law_equal,
    b__law_equal := (fun_mk (st := s__law_equal) l__law_equal c__law_equal k__law_equal).binds (ps := ["actual", "due"]) fun _ _ _ _ _ _ us hl => match us, hl with | [_, _], _ => rfl,
    a__law_turn := f__law_turn, d__law_turn := _, F__law_turn := fun_mk (st := s__law_turn) l__law_turn c__law_turn k__law_turn, m__law_turn := PySem.W.mg_of X G a__law_turn,
    b__law_turn := (fun_mk (st := s__law_turn) l__law_turn c__law_turn k__law_turn).binds (ps := ["a", "b", "c"]) fun _ _ _ _ _ _ us hl => match us, hl with | [_, _, _], _ => rfl,
    a__law_sign := f__law_sign, d__law_sign := _, F__law_sign := fun_mk (st := s__law_sign) l__law_sign c__law_sign k__law_sign, m__law_sign := PySem.W.mg_of X G a__law_sign,
    b__law_sign := (fun_mk (st := s__law_sign) l__law_sign c__law_sign k__law_sign).binds (ps := ["n"]) fun _ _ _ _ _ _ us hl => match us, hl with | [_], _ => rfl,
    a__law_between := f__law_between, d__law_between := _, F__law_between := fun_mk (st := s__law_between) l__law_between c__law_between k__law_between, m__law_between := PySem.W.mg_of X G a__law_between,
    b__law_between := (fun_mk (st := s__law_between) l__law_between c__law_between k__law_between).binds (ps := ["p", "a", "b"]) fun _ _ _ _ _ _ us hl => match us, hl with | [_, _, _], _ => rfl,
    a__law_point := f__law_point, d__law_point := _, F__law_point := fun_mk (st := s__law_point) l__law_point c__law_point k__law_point, m__law_point := PySem.W.mg_of X G a__law_point,
    b__law_point := (fun_mk (st := s__law_point) l__law_point c__law_point k__law_point).binds (ps := ["stream", "far"]) fun _ _ _ _ _ _ us hl => match us, hl with | [_, _], _ => rfl,
    a__law_far := f__law_far, d__law_far := _, F__law_far := fun_mk (st := s__law_far) l__law_far c__law_far k__law_far, m__law_far := PySem.W.mg_of X G a__law_far,
    b__law_far := (fun_mk (st := s__law_far) l__law_far c__law_far k__law_far).binds (ps := ["stream"]) fun _ _ _ _ _ _ us hl => match us, hl with | [_], _ => rfl,
    a__law_segment := f__law_segment, d__law_segment := _, F__law_segment := fun_mk (st := s__law_segment) l__law_segment c__law_segment k__law_segment, m__law_segment := PySem.W.mg_of X G a__law_segment,
    b__law_segment := (fun_mk (st := s__law_segment) l__law_segment c__law_segment k__law_segment).binds (ps := ["stream", "far"]) fun _ _ _ _ _ _ us hl => match us, hl with | [_, _], _ => rfl,
    a__law_ends := f__law_ends, d__law_ends := _, F__law_ends := fun_mk (st := s__law_ends) l__law_ends c__law_ends k__law_ends, m__law_ends := PySem.W.mg_of X G a__law_ends,
    b__law_ends := (fun_mk (st := s__law_ends) l__law_ends c__law_ends k__law_ends).binds (ps := ["s", "t"]) fun _ _ _ _ _ _ us hl => match us, hl with | [_, _], _ => rfl,
    a__law_apart := f__law_apart, d__law_apart := _, F__law_apart := fun_mk (st := s__law_apart) l__law_apart c__law_apart k__law_apart, m__law_apart := PySem.W.mg_of X G a__law_apart,
    b__law_apart := (fun_mk (st := s__law_apart) l__law_apart c__law_apart k__law_apart).binds (ps := ["s", "t"]) fun _ _ _ _ _ _ us hl => match us, hl with | [_, _], _ => rfl,
    a__law_is_on_line := f__law_is_on_line, d__law_is_on_line := _, F__law_is_on_line := fun_mk (st := s__law_is_on_line) l__law_is_on_line c__law_is_on_line k__law_is_on_line, m__law_is_on_line := PySem.W.mg_of X G a__law_is_on_line,
    b__law_is_on_line := (fun_mk (st := s__law_is_on_line) l__law_is_on_line c__law_is_on_line k__law_is_on_line).binds (ps := ["x", "y", "s"]) fun _ _ _ _ _ _ us hl => match us, hl with | [_, _, _], _ => rfl,
    a__law_pair := f__law_pair, d__law_pair := _, F__law_pair := fun_mk (st := s__law_pair) l__law_pair c__law_pair k__law_pair, m__law_pair := PySem.W.mg_of X G a__law_pair,
    b__law_pair := (fun_mk (st := s__law_pair) l__law_pair c__law_pair k__law_pair).binds (ps := ["stream"]) fun _ _ _ _ _ _ us hl => match us, hl with | [_], _ => rfl,
    a_law := fa, d_law := _, F_law := fun_mk (st := s_law) l_law c_law k_law, m_law := PySem.W.mg_of X G a_law,
    b_law := (fun_mk (st := s_law) l_law c_law k_law).binds (ps := ["script"]) fun _ _ _ _ _ _ us hl => match us, hl with | [_], _ => rfl,
    n_abs := PySem.W.mg_none_of X G z_abs,
    n_all := PySem.W.mg_none_of X G z_all,
    n_bool := PySem.W.mg_none_of X G z_bool,
    n_int := PySem.W.mg_none_of X G z_int,
    n_isinstance := PySem.W.mg_none_of X G z_isinstance,
    n_len := PySem.W.mg_none_of X G z_len,
    n_list := PySem.W.mg_none_of X G z_list,
    n_max := PySem.W.mg_none_of X G z_max,
    n_min := PySem.W.mg_none_of X G z_min,
    n_range := PySem.W.mg_none_of X G z_range,
    n_sorted := PySem.W.mg_none_of X G z_sorted,
    n_str := PySem.W.mg_none_of X G z_str,
    n_tuple := PySem.W.mg_none_of X G z_tuple,
    c_HIGHEST := ⟨_, PySem.W.mg_of X G v_HIGHEST⟩,
    c_LOWEST := ⟨_, PySem.W.mg_of X G v_LOWEST⟩,
    n_gcd := PySem.W.mg_of X G z_gcd }
  exact ⟨_, fun s v => .of_eq rfl, fun base _ _ => ok_law T⟩
theorem walk {l : PySem.W.OpenLaw} {q : Program} {loose : List Str} {XP : (Str → Option Value) → Heap → Prop} {YP : World → Heap → Prop} {d : DefRec} {K : Params → PySem.W.Frag} (hn : l.most = some 63) (hdf : d.params.defaults = [])
    (hY : ∀ (w : World) (h : Heap), YP w h → (K w.params).In h)
    (F : ∀ (w : World) (mg : Str → Option Value) (fa : Addr) (h : Heap), (K w.params).In h → h.Ns mainGlobals mg → mg d.name = some (.ref fa) →
      ∃ fd : FuncData, (∀ (s : Shared) (u : Value), BindsTo s fd ⟨[u], []⟩ [("script", u)]) ∧ ∀ base : Heap, (K w.params).In base → base.Ns mainGlobals mg → FnOk l.prog w (K w.params) mg base CX0 6 fa fd ["script"] (spLaw (K w.params))) :
    PySem.W.WalkO q loose XP YP l.row.toRowW d [] (fun f vs => PySem.call f vs) :=
  L2.walk_of (n := 63) (k := 6) (x := "script") (CX := fun _ => CX0) (sp := fun w => spLaw (K w.params)) hn (by decide) hdf ⟨rfl, by decide, by decide⟩ hY F (fun _ _ a ns hl _ hS => ⟨a, ns, rfl, hS, hl, fun _ => rfl⟩) fun _ _ _ _ _ z => z
end My
open PySem PySem.W PyProof.Rows
set_option maxRecDepth 100000 in
set_option maxHeartbeats 0 in
theorem PySem.Challenge.cw_trueatlas_k05_meetings_holds : PySem.Challenge.rw_trueatlas_k05_meetings.Holds := by
  w_on; o_law; k_head; (case hw => w_witness2)
  k_fill
  refine My.walk (l := PySem.Challenge.rw_trueatlas_k05_meetings) rfl rfl (fun w h Y => PySem.W.kIn_of Y) ?F
  case F =>
    intro w mg fa h KX G hmg
    refine' My.all_mk KX G hmg ?a_is_whole ?l_is_whole ?c_is_whole ?k_is_whole ?a_is_pair ?l_is_pair ?c_is_pair ?k_is_pair ?a_need ?l_need ?c_need ?k_need ?a_lowest ?l_lowest ?c_lowest ?k_lowest ?a_is_coordinate ?l_is_coordinate ?c_is_coordinate ?k_is_coordinate ?a_is_point ?l_is_point ?c_is_point ?k_is_point ?a_is_segment ?l_is_segment ?c_is_segment ?k_is_segment ?a_turn_of ?l_turn_of ?c_turn_of ?k_turn_of ?a_is_on ?l_is_on ?c_is_on ?k_is_on ?a_are_apart ?l_are_apart ?c_are_apart ?k_are_apart ?a_meeting_on_line ?l_meeting_on_line ?c_meeting_on_line ?k_meeting_on_line ?a_common_end ?l_common_end ?c_common_end ?k_common_end ?a_cut_point ?l_cut_point ?c_cut_point ?k_cut_point ?a_meeting_of ?l_meeting_of ?c_meeting_of ?k_meeting_of ?a_meeting ?l_meeting ?c_meeting ?k_meeting ?a__law_stream ?l__law_stream ?c__law_stream ?k__law_stream ?a__law_next ?l__law_next ?c__law_next ?k__law_next ?a__law_is_integer ?l__law_is_integer ?c__law_is_integer ?k__law_is_integer ?a__law_gcd ?l__law_gcd ?c__law_gcd ?k__law_gcd ?a__law_low ?l__law_low ?c__law_low ?k__law_low ?a__law_plus ?l__law_plus ?c__law_plus ?k__law_plus ?a__law_times ?l__law_times ?c__law_times ?k__law_times ?a__law_equal ?l__law_equal ?c__law_equal ?k__law_equal ?a__law_turn ?l__law_turn ?c__law_turn ?k__law_turn ?a__law_sign ?l__law_sign ?c__law_sign ?k__law_sign ?a__law_between ?l__law_between ?c__law_between ?k__law_between ?a__law_point ?l__law_point ?c__law_point ?k__law_point ?a__law_far ?l__law_far ?c__law_far ?k__law_far ?a__law_segment ?l__law_segment ?c__law_segment ?k__law_segment ?a__law_ends ?l__law_ends ?c__law_ends ?k__law_ends ?a__law_apart ?l__law_apart ?c__law_apart ?k__law_apart ?a__law_is_on_line ?l__law_is_on_line ?c__law_is_on_line ?k__law_is_on_line ?a__law_pair ?l__law_pair ?c__law_pair ?k__law_pair ?a_law ?l_law ?c_law ?k_law ?z_abs ?z_all ?z_bool ?z_int ?z_isinstance ?z_len ?z_list ?z_max ?z_min ?z_range ?z_sorted ?z_str ?z_tuple ?v_HIGHEST ?v_LOWEST ?z_gcd
    (case a_is_whole => k_is)
    (case l_is_whole => k_is)
    (case c_is_whole => k_is)
    (case k_is_whole => k_is)
    (case a_is_pair => k_is)
    (case l_is_pair => k_is)
    (case c_is_pair => k_is)
    (case k_is_pair => k_is)
    (case a_need => k_is)
    (case l_need => k_is)
    (case c_need => k_is)
    (case k_need => k_is)
    (case a_lowest => k_is)
    (case l_lowest => k_is)
    (case c_lowest => k_is)
    (case k_lowest => k_is)
    (case a_is_coordinate => k_is)
    (case l_is_coordinate => k_is)
    (case c_is_coordinate => k_is)
    (case k_is_coordinate => k_is)
    (case a_is_point => k_is)
    (case l_is_point => k_is)
    (case c_is_point => k_is)
    (case k_is_point => k_is)
    (case a_is_segment => k_is)
    (case l_is_segment => k_is)
    (case c_is_segment => k_is)
    (case k_is_segment => k_is)
    (case a_turn_of => k_is)
    (case l_turn_of => k_is)
    (case c_turn_of => k_is)
    (case k_turn_of => k_is)
    (case a_is_on => k_is)
    (case l_is_on => k_is)
    (case c_is_on => k_is)
    (case k_is_on => k_is)
    (case a_are_apart => k_is)
    (case l_are_apart => k_is)
    (case c_are_apart => k_is)
    (case k_are_apart => k_is)
    (case a_meeting_on_line => k_is)
    (case l_meeting_on_line => k_is)
    (case c_meeting_on_line => k_is)
    (case k_meeting_on_line => k_is)
    (case a_common_end => k_is)
    (case l_common_end => k_is)
    (case c_common_end => k_is)
    (case k_common_end => k_is)
    (case a_cut_point => k_is)
    (case l_cut_point => k_is)
    (case c_cut_point => k_is)
    (case k_cut_point => k_is)
    (case a_meeting_of => k_is)
    (case l_meeting_of => k_is)
    (case c_meeting_of => k_is)
    (case k_meeting_of => k_is)
    (case a_meeting => k_is)
    (case l_meeting => k_is)
    (case c_meeting => k_is)
    (case k_meeting => k_is)
    (case a__law_stream => k_is)
    (case l__law_stream => k_is)
    (case c__law_stream => k_is)
    (case k__law_stream => k_is)
    (case a__law_next => k_is)
    (case l__law_next => k_is)
    (case c__law_next => k_is)
    (case k__law_next => k_is)
    (case a__law_is_integer => k_is)
    (case l__law_is_integer => k_is)
    (case c__law_is_integer => k_is)
    (case k__law_is_integer => k_is)
    (case a__law_gcd => k_is)
    (case l__law_gcd => k_is)
    (case c__law_gcd => k_is)
    (case k__law_gcd => k_is)
    (case a__law_low => k_is)
    (case l__law_low => k_is)
    (case c__law_low => k_is)
    (case k__law_low => k_is)
    (case a__law_plus => k_is)
    (case l__law_plus => k_is)
    (case c__law_plus => k_is)
    (case k__law_plus => k_is)
    (case a__law_times => k_is)
    (case l__law_times => k_is)
    (case c__law_times => k_is)
    (case k__law_times => k_is)
    (case a__law_equal => k_is)
    (case l__law_equal => k_is)
    (case c__law_equal => k_is)
    (case k__law_equal => k_is)
    (case a__law_turn => k_is)
    (case l__law_turn => k_is)
    (case c__law_turn => k_is)
    (case k__law_turn => k_is)
    (case a__law_sign => k_is)
    (case l__law_sign => k_is)
    (case c__law_sign => k_is)
    (case k__law_sign => k_is)
    (case a__law_between => k_is)
    (case l__law_between => k_is)
    (case c__law_between => k_is)
    (case k__law_between => k_is)
    (case a__law_point => k_is)
    (case l__law_point => k_is)
    (case c__law_point => k_is)
    (case k__law_point => k_is)
    (case a__law_far => k_is)
    (case l__law_far => k_is)
    (case c__law_far => k_is)
    (case k__law_far => k_is)
    (case a__law_segment => k_is)
    (case l__law_segment => k_is)
    (case c__law_segment => k_is)
    (case k__law_segment => k_is)
    (case a__law_ends => k_is)
    (case l__law_ends => k_is)
    (case c__law_ends => k_is)
    (case k__law_ends => k_is)
    (case a__law_apart => k_is)
    (case l__law_apart => k_is)
    (case c__law_apart => k_is)
    (case k__law_apart => k_is)
    (case a__law_is_on_line => k_is)
    (case l__law_is_on_line => k_is)
    (case c__law_is_on_line => k_is)
    (case k__law_is_on_line => k_is)
    (case a__law_pair => k_is)
    (case l__law_pair => k_is)
    (case c__law_pair => k_is)
    (case k__law_pair => k_is)
    (case a_law => k_is)
    (case l_law => k_is)
    (case c_law => k_is)
    (case k_law => k_is)
    (case z_abs => k_is)
    (case z_all => k_is)
    (case z_bool => k_is)
    (case z_int => k_is)
    (case z_isinstance => k_is)
    (case z_len => k_is)
    (case z_list => k_is)
    (case z_max => k_is)
    (case z_min => k_is)
    (case z_range => k_is)
    (case z_sorted => k_is)
    (case z_str => k_is)
    (case z_tuple => k_is)
    (case v_HIGHEST => k_is)
    (case v_LOWEST => k_is)
    (case z_gcd => k_is)


import PyProof.Rows.All
import Wide.All
import OpenK.AllK
import Wide.FinOn
import HandS.ForMost
import HandS.ForExc
import HandS.IsInst
import HandS.Wide
import HandS.TupLe
import HandS.TupAny
import HandS.Gcd
import HandS.Codes
import PySem.Challenge.RW_trueatlas_k03_turns
set_option Elab.async false
set_option linter.all false
set_option maxRecDepth 100000
set_option maxHeartbeats 4000000
namespace My
open PySem L2

/-! ## small rules -/
theorem pe_gI {X : Cx} {x : Str} {i : Int} {pos : Pos} (hm : ∃ t, X.mg x = some (.int i t)) (hg : Gl X x := by rfl) (hd : (x == ("__debug__" : Str)) = false := by decide) (hcd : (x == ("__classdict__" : Str)) = false := by decide) : PE X (.Name x pos) (tC (.int i)) := by
  obtain ⟨t, e⟩ := hm
  exact pe_glob hg e ⟨t, rfl⟩ hd
theorem ifD {c A B : Prop} [Decidable c] (h1 : c → A) (h2 : ¬ c → B) : if decide c = true then A else B := by
  by_cases h : c
  · rw [if_pos (decide_eq_true h)]; exact h1 h
  · rw [if_neg (by rw [decide_eq_false h]; exact Bool.false_ne_true)]; exact h2 h
theorem ifND {c A B : Prop} [Decidable c] (h1 : ¬ c → A) (h2 : c → B) : if (!decide c) = true then A else B := by
  by_cases h : c
  · rw [if_neg (by rw [decide_eq_true h]; exact Bool.false_ne_true)]; exact h2 h
  · rw [if_pos (by rw [decide_eq_false h]; rfl)]; exact h1 h
theorem ifB {b : Bool} {A B : Prop} (h1 : b = true → A) (h2 : b = false → B) : if b = true then A else B := by
  cases b
  · exact iteF (h2 rfl)
  · exact iteT (h1 rfl)
theorem ifTr {b : Bool} {A B : Prop} (e : b = true) (h : A) : if b = true then A else B := by rw [if_pos e]; exact h
theorem ifFa {b : Bool} {A B : Prop} (e : b = false) (h : B) : if b = true then A else B := by rw [e]; exact iteF h

/-! ## heaps: all that stood stands, but for what is at s -/
def But (s : Addr) (H H' : Hp) : Prop := ∀ b o, b ≠ s → H b = some o → H' b = some o
theorem But.refl {s : Addr} {H : Hp} : But s H H := fun _ _ _ e => e
theorem But.trans {s : Addr} {H H1 H2 : Hp} (a : But s H H1) (b : But s H1 H2) : But s H H2 := fun c o n e => b c o n (a c o n e)
theorem But.new {s p : Addr} {H : Hp} {o : HO} (n : H p = none) : But s H (upd H p o) := fun b u _ e => by
  rw [upd_ne (ne_of_none e n)]; exact e
theorem But.then_new {s p : Addr} {H H1 : Hp} {o : HO} (a : But s H H1) (n : H1 p = none) : But s H (upd H1 p o) := a.trans (But.new n)
theorem But.at {s : Addr} {H : Hp} {o : HO} : But s H (upd H s o) := fun b u n e => by rw [upd_ne n]; exact e
theorem But.then_at {s : Addr} {H H1 : Hp} {o : HO} (a : But s H H1) : But s H (upd H1 s o) := a.trans But.at
theorem But.of_same {s : Addr} {H H' : Hp} (a : Same H H') : But s H H' := fun b o _ e => a b o e
theorem But.then_same {s : Addr} {H H1 H2 : Hp} (a : But s H H1) (b : Same H1 H2) : But s H H2 := a.trans (But.of_same b)
theorem same_new {p : Addr} {H : Hp} {o : HO} (n : H p = none) : Same H (upd H p o) := fun b u e => by
  rw [upd_ne (ne_of_none e n)]; exact e
theorem same_then {p : Addr} {H H1 : Hp} {o : HO} (a : Same H H1) (n : H1 p = none) : Same H (upd H1 p o) := a.trans (same_new n)
/-- what stands at s is the stream's list: no tuple -/
def Lst (H : Hp) (s : Addr) : Prop := ∃ xs, H s = some (.lst xs)

/-! ## tuples -/
section
variable {K : PySem.W.Frag} {H H' : Hp} {a p s : Addr} {xs : List V} {o : HO}
theorem tHere : SqT K (upd H p (.tup xs)) p xs := SqT.of upd_same
theorem tSame (e : Same H H') (h : SqT K H a xs) : SqT K H' a xs := by
  rcases h with (h | ⟨o, h⟩) | h
  · exact .inl (.inl (e _ _ h))
  · exact .inl (.inr ⟨o, e _ _ h⟩)
  · exact .inr h
theorem tOver (n : H p = none) (h : SqT K H a xs) : SqT K (upd H p o) a xs := tSame (same_new n) h
theorem tAt (n : ∃ ys, H s = some (.lst ys)) (h : SqT K H a xs) : SqT K (upd H s o) a xs := by
  obtain ⟨ys, n⟩ := n
  rcases h with (h | ⟨o, h⟩) | h
  · exact .inl (.inl (by rw [upd_ne (ne_of h n (by intro z; cases z))]; exact h))
  · exact .inl (.inr ⟨o, by rw [upd_ne (ne_of h n (by intro z; cases z))]; exact h⟩)
  · exact .inr h
theorem tBut (e : But s H H') (n : Lst H s) (h : SqT K H a xs) : SqT K H' a xs := by
  obtain ⟨ys, n⟩ := n
  rcases h with (h | ⟨o, h⟩) | h
  · exact .inl (.inl (e _ _ (ne_of h n (by intro z; cases z)) h))
  · exact .inl (.inr ⟨o, e _ _ (ne_of h n (by intro z; cases z)) h⟩)
  · exact .inr h
theorem lHere : SqL K (upd H p (.lst xs)) p xs := SqL.of upd_same
theorem lOver (n : H p = none) (h : SqL K H a xs) : SqL K (upd H p o) a xs := Same.seq (same_new n) h
theorem rOver (n : H p = none) {u : HO} (h : H a = some u) : upd H p o a = some u := by rw [upd_ne (ne_of_none h n)]; exact h
end
end My

namespace My
open PySem L2
/-! ## kinds of values -/
inductive Ty (K : PySem.W.Frag) (H : Hp) : V → String → Prop where
  | non : Ty K H .non "NoneType"
  | bl (b : Bool) : Ty K H (.bl b) "bool"
  | int (i : Int) : Ty K H (.int i) "int"
  | str (x : Str) : Ty K H (.str x) "str"
  | tup {a : Addr} {xs : List V} (h : SqT K H a xs) : Ty K H (.ref a) "tuple"
  | lst {a : Addr} {xs : List V} (h : SqL K H a xs) : Ty K H (.ref a) "list"
theorem Ty.x {K : PySem.W.Frag} {H : Hp} {v : V} {n : String} (h : Ty K H v n) : TyX K H v (.type n) := by
  cases h with
  | non => exact .base .non
  | bl b => exact .base (.bl b)
  | int i => exact .base (.int i)
  | str x => exact .base (.str x)
  | tup h =>
    rcases h with (h | ⟨o, h⟩) | ⟨o, its, n, e, c, _⟩
    · exact .base (.tup h)
    · exact .fTuple h
    · exact .kTuple e c
  | lst h =>
    rcases h with (h | ⟨o, h⟩) | ⟨o, its, n, e, c, _⟩
    · exact .base (.lst h)
    · exact .base (.frz h)
    · exact .kList e c
/-- isinstance's answers among these -/
def isaB (a b : String) : Bool := (kitB a b).getD false
theorem isa {K : PySem.W.Frag} {a b : String} (h : (kitB a b).isSome = true) : PySem.W.kitOne K (.type a) (.type b) = some (isaB a b) := by
  refine kit_ty ?_
  unfold isaB
  cases e : kitB a b with
  | none => rw [e] at h; cases h
  | some r => rfl
def six : List String := ["NoneType", "bool", "int", "str", "tuple", "list"]
theorem isa_all : (six.all fun a => six.tail.all fun b => (kitB a b).isSome) = true := by decide +kernel
theorem isa_tab : (six.all fun a => six.tail.all fun b => isaB a b == (a == b || (a == "bool" && b == "int"))) = true := by decide +kernel
theorem Ty.six {K : PySem.W.Frag} {H : Hp} {v : V} {n : String} (h : Ty K H v n) : n ∈ six := by
  cases h <;> simp [My.six]
theorem isaN {K : PySem.W.Frag} {n b : String} (h : n ∈ My.six) (hb : b ∈ My.six.tail) : PySem.W.kitOne K (.type n) (.type b) = some (n == b || (n == "bool" && b == "int")) := by
  have h1 := List.all_eq_true.mp (List.all_eq_true.mp isa_all n h) b hb
  have h2 := List.all_eq_true.mp (List.all_eq_true.mp isa_tab n h) b hb
  rw [isa h1, eq_of_beq h2]
/-- whether a value is an int (True and False are none) -/
def isI : V → Bool
  | .int _ => true
  | _ => false
theorem small {n : Nat} (h : Nat.ble n 100 = true) : n ≤ sizeLine := Nat.le_trans (Nat.le_of_ble_eq_true h) (by decide)
/-! ## indexes -/
theorem at0 {α : Type} {a : α} {r : List α} : atI (a :: r) 0 = some a := atI_nat (j := 0) rfl
theorem at1 {α : Type} {a b : α} {r : List α} : atI (a :: b :: r) 1 = some b := atI_nat (j := 1) rfl
theorem at2 {α : Type} {a b c : α} {r : List α} : atI (a :: b :: c :: r) 2 = some c := atI_nat (j := 2) rfl
theorem at3 {α : Type} {a b c d : α} {r : List α} : atI (a :: b :: c :: d :: r) 3 = some d := atI_nat (j := 3) rfl
end My

namespace My
open PySem L2
/-! ## points -/
def coordB : V → Bool
  | .int i => decide (-1000 ≤ i) && decide (i ≤ 1000)
  | _ => false
def pointB : List V → Bool
  | [u, v] => coordB u && coordB v
  | _ => false
/-- small enough to be multiplied -/
def Sm (x : Int) : Prop := -1099511627776 ≤ x ∧ x ≤ 1099511627776
def turnI (ax ay bx dy cx cy : Int) : Int := (bx - ax) * (cy - ay) - (dy - ay) * (cx - ax)
/-- whether a point's numbers are those of the map -/
def On (x y : Int) : Prop := -1000 ≤ x ∧ x ≤ 1000 ∧ -1000 ≤ y ∧ y ≤ 1000
theorem On.b {x y : Int} (h : On x y) : pointB [.int x, .int y] = true := by
  obtain ⟨h1, h2, h3, h4⟩ := h
  simp [pointB, coordB, h1, h2, h3, h4]
theorem On.sx {x y : Int} (h : On x y) : Sm x := by unfold On at h; unfold Sm; omega
theorem On.sy {x y : Int} (h : On x y) : Sm y := by unfold On at h; unfold Sm; omega
/-! ## the stream of a law -/
/-- at s: a stream: a list of ints, the cell, its number -/
def Strm (H : Hp) (s b : Addr) : Prop := ∃ (ns : List Int) (c k : Int), H b = some (.lst (ns.map V.int)) ∧ H s = some (.lst [.ref b, .int c, .int k]) ∧ 0 ≤ c ∧ 0 ≤ k
theorem Strm.lst {H : Hp} {s b : Addr} (h : Strm H s b) : Lst H s := by
  obtain ⟨_, _, _, _, h, _⟩ := h
  exact ⟨_, h⟩
theorem Strm.same {H H' : Hp} {s b : Addr} (h : Strm H s b) (e : Same H H') : Strm H' s b := by
  obtain ⟨ns, c, k, h1, h2, h3, h4⟩ := h
  exact ⟨ns, c, k, e _ _ h1, e _ _ h2, h3, h4⟩
theorem Strm.over {H : Hp} {s b p : Addr} {o : HO} (h : Strm H s b) (n : H p = none) : Strm (upd H p o) s b := h.same (same_new n)
/-- a list of the law's own grows -/
theorem Strm.at {H : Hp} {s b p : Addr} {o : HO} (h : Strm H s b) (n1 : p ≠ s) (n2 : p ≠ b) : Strm (upd H p o) s b := by
  obtain ⟨ns, c, k, h1, h2, h3, h4⟩ := h
  exact ⟨ns, c, k, by rw [upd_ne n2.symm]; exact h1, by rw [upd_ne n1.symm]; exact h2, h3, h4⟩
theorem Strm.new1 {H : Hp} {s b p : Addr} (h : Strm H s b) (n : H p = none) : p ≠ s := by
  obtain ⟨ns, c, k, h1, h2, h3, h4⟩ := h
  exact (ne_of_none h2 n).symm
theorem Strm.new2 {H : Hp} {s b p : Addr} (h : Strm H s b) (n : H p = none) : p ≠ b := by
  obtain ⟨ns, c, k, h1, h2, h3, h4⟩ := h
  exact (ne_of_none h1 n).symm
theorem ints_no_ref {ns : List Int} {b : Addr} {r : List V} : HO.lst (ns.map V.int) ≠ HO.lst (.ref b :: r) := by
  intro e
  cases ns with
  | nil => injection e with e; cases e
  | cons n ns => injection e with e; injection e with e _; cases e
/-- the two objects of a stream stand apart -/
theorem Strm.ne {H : Hp} {b s : Addr} {ns : List Int} {x : Addr} {r : List V} (h1 : H b = some (.lst (ns.map V.int))) (h2 : H s = some (.lst (.ref x :: r))) : b ≠ s := ne_of h1 h2 ints_no_ref
/-! ## digits -/
theorem fmod_lt {a m : Int} (hm : 0 < m) : a.fmod m < m := by
  rw [Int.fmod_eq_emod_of_nonneg _ (Int.le_of_lt hm)]; exact Int.emod_lt_of_pos _ hm
theorem fmod_ge {a m : Int} (hm : 0 < m) : 0 ≤ a.fmod m := by
  rw [Int.fmod_eq_emod_of_nonneg _ (Int.le_of_lt hm)]; exact Int.emod_nonneg _ (by omega)
theorem div_ge {a m : Int} (ha : 0 ≤ a) (hm : 0 < m) : 0 ≤ a / m := Int.ediv_nonneg ha (Int.le_of_lt hm)
end My

namespace My
open PySem L2
/-! ## two values with the same content, to a depth below n -/
inductive Dq (K : PySem.W.Frag) (H : Hp) : Nat → V → V → Prop where
  | non (n : Nat) : Dq K H (n + 1) .non .non
  | bl (n : Nat) (b : Bool) : Dq K H (n + 1) (.bl b) (.bl b)
  | int (n : Nat) (i : Int) : Dq K H (n + 1) (.int i) (.int i)
  | str (n : Nat) (x : Str) : Dq K H (n + 1) (.str x) (.str x)
  | lst {n : Nat} {a b : Addr} {xs ys : List V} (h1 : SqL K H a xs) (h2 : SqL K H b ys) (hl : xs.length = ys.length) (hz : ys.length ≤ 1000)
      (h : ∀ (i : Nat) u v, xs[i]? = some u → ys[i]? = some v → Dq K H n u v) : Dq K H (n + 1) (.ref a) (.ref b)
  | tup {n : Nat} {a b : Addr} {xs ys : List V} (h1 : SqT K H a xs) (h2 : SqT K H b ys) (hl : xs.length = ys.length) (hz : ys.length ≤ 1000)
      (h : ∀ (i : Nat) u v, xs[i]? = some u → ys[i]? = some v → Dq K H n u v) : Dq K H (n + 1) (.ref a) (.ref b)
theorem Dq.same {K : PySem.W.Frag} {H H' : Hp} (e : Same H H') {n : Nat} {x y : V} (h : Dq K H n x y) : Dq K H' n x y := by
  induction h with
  | non n => exact .non n
  | bl n b => exact .bl n b
  | int n i => exact .int n i
  | str n x => exact .str n x
  | lst h1 h2 hl hz _ ih => exact .lst (e.seq h1) (e.seq h2) hl hz ih
  | tup h1 h2 hl hz _ ih => exact .tup (tSame e h1) (tSame e h2) hl hz ih
theorem get_at {xs : List V} {i : Nat} (h : i < xs.length) : xs[i]? = some xs[i] := List.getElem?_eq_getElem h
theorem line1000 {n : Nat} (h : n ≤ 1000) : n < 2 ^ 62 := Nat.lt_of_le_of_lt h (by decide)
end My

namespace My
open PySem L2
section
variable {K : PySem.W.Frag} {H H' : Hp} {a p s : Addr} {xs : List V} {o : HO}
/-- a new list stands behind a draw -/
theorem rBut {b : Addr} (e : But s (upd H p o) H') (n : H p = none) (S : Strm H s b) : H' p = some o := by
  obtain ⟨ns, c, k, h1, h2, _⟩ := S
  exact e p o (ne_of_none h2 n).symm upd_same
theorem tButS {b : Addr} (e : But s H H') (S : Strm H s b) (h : SqT K H a xs) : SqT K H' a xs := tBut e S.lst h
end
/-- one of the four -/
def Far (f : Int) : Prop := f = 2 ∨ f = 4 ∨ f = 9 ∨ f = 1000
theorem Far.le {f : Int} (h : Far f) : 2 ≤ f ∧ f ≤ 1000 := by unfold Far at h; omega
/-- a point within far -/
def In (f x y : Int) : Prop := -f ≤ x ∧ x ≤ f ∧ -f ≤ y ∧ y ≤ f
theorem In.on {f x y : Int} (h : In f x y) (hf : f ≤ 1000) : On x y := by unfold In at h; unfold On; omega
theorem atFour {α : Type} {a b c d : α} {i : Int} (h0 : 0 ≤ i) (h1 : i < 4) : ∃ v, atI [a, b, c, d] i = some v ∧ (v = a ∨ v = b ∨ v = c ∨ v = d) := by
  rcases (show i = 0 ∨ i = 1 ∨ i = 2 ∨ i = 3 by omega) with rfl | rfl | rfl | rfl
  · exact ⟨_, at0, .inl rfl⟩
  · exact ⟨_, at1, .inr (.inl rfl)⟩
  · exact ⟨_, at2, .inr (.inr (.inl rfl))⟩
  · exact ⟨_, at3, .inr (.inr (.inr rfl))⟩
theorem atThree {α : Type} {a b c : α} {i : Int} (h0 : 0 ≤ i) (h1 : i < 3) : ∃ v, atI [a, b, c] i = some v ∧ (v = a ∨ v = b ∨ v = c) := by
  rcases (show i = 0 ∨ i = 1 ∨ i = 2 by omega) with rfl | rfl | rfl
  · exact ⟨_, at0, .inl rfl⟩
  · exact ⟨_, at1, .inr (.inl rfl)⟩
  · exact ⟨_, at2, .inr (.inr rfl)⟩
/-! ## turns -/
theorem turn_cyc (ax ay bx dy cx cy : Int) : turnI bx dy cx cy ax ay = turnI ax ay bx dy cx cy := by unfold turnI; grind
theorem turn_swap (ax ay bx dy cx cy : Int) : turnI bx dy ax ay cx cy = 0 - turnI ax ay bx dy cx cy := by unfold turnI; grind
theorem turn_quarter (ax ay bx dy cx cy : Int) : turnI (0 - ay) ax (0 - dy) bx (0 - cy) cx = turnI ax ay bx dy cx cy := by unfold turnI; grind
theorem turn_mirror (ax ay bx dy cx cy : Int) : turnI (0 - ax) ay (0 - bx) dy (0 - cx) cy = 0 - turnI ax ay bx dy cx cy := by unfold turnI; grind
theorem turn_moved (ax ay bx dy cx cy d e : Int) : turnI (ax + d) (ay - e) (bx + d) (dy - e) (cx + d) (cy - e) = turnI ax ay bx dy cx cy := by unfold turnI; grind
theorem turn_four (ax ay bx dy cx cy ex ey : Int) : turnI ax ay bx dy cx cy + turnI ax ay cx cy ex ey = turnI ax ay bx dy ex ey + turnI bx dy cx cy ex ey := by unfold turnI; grind
end My
namespace My
open PySem L2
theorem two_ints {K : PySem.W.Frag} {H : Hp} {x y : Int} : ∀ v ∈ [V.int x, V.int y], ∃ m, Ty K H v m := by
  intro v hv
  rcases List.mem_cons.mp hv with rfl | hv
  · exact ⟨_, .int _⟩
  · rcases List.mem_cons.mp hv with rfl | hv
    · exact ⟨_, .int _⟩
    · cases hv
end My

namespace My
open PySem L2
/-! ## lists of points: each with where it stands -/
abbrev Zp := Addr × Int × Int
/-- what a list of points holds -/
abbrev refs (zs : List Zp) : List V := zs.map fun z => V.ref z.1
def Pts (K : PySem.W.Frag) (H : Hp) (zs : List Zp) : Prop := ∀ z ∈ zs, SqT K H z.1 [.int z.2.1, .int z.2.2]
section
variable {K : PySem.W.Frag} {H H' : Hp} {s b D p : Addr} {zs : List Zp} {z : Zp} {o : HO}
theorem Pts.nil : Pts K H [] := fun _ h => by cases h
theorem Pts.same (e : Same H H') (h : Pts K H zs) : Pts K H' zs := fun z hz => tSame e (h z hz)
theorem Pts.but (e : But s H H') (S : Strm H s b) (h : Pts K H zs) : Pts K H' zs := fun z hz => tButS e S (h z hz)
theorem Pts.over (n : H p = none) (h : Pts K H zs) : Pts K (upd H p o) zs := h.same (same_new n)
theorem Pts.at (n : ∃ ys, H D = some (.lst ys)) (h : Pts K H zs) : Pts K (upd H D o) zs := fun z hz => tAt n (h z hz)
theorem Pts.one (h : SqT K H z.1 [.int z.2.1, .int z.2.2]) : Pts K H [z] := fun y hy => by
  rw [List.mem_singleton] at hy; rw [hy]; exact h
theorem Pts.app {ys : List Zp} (h : Pts K H zs) (g : Pts K H ys) : Pts K H (zs ++ ys) := fun y hy =>
  (List.mem_append.mp hy).elim (h y) (g y)
theorem Pts.get (h : Pts K H zs) {i : Nat} (e : zs[i]? = some z) : SqT K H z.1 [.int z.2.1, .int z.2.2] := h z (List.mem_of_getElem? e)
end
theorem four_of {α : Type} {xs : List α} (h : xs.length = 4) : ∃ a b c d, xs = [a, b, c, d] := by
  match xs, h with
  | [a, b, c, d], _ => exact ⟨a, b, c, d, rfl⟩
theorem three_of {α : Type} {xs : List α} (h : xs.length = 3) : ∃ a b c, xs = [a, b, c] := by
  match xs, h with
  | [a, b, c], _ => exact ⟨a, b, c, rfl⟩
theorem line_of {n : Nat} (h : n ≤ 1000) : n < sizeLine := small1000 h
end My
namespace My
open PySem L2
def spLaw (K : PySem.W.Frag) : Sp := fun vs H Q _ => ∃ (a : Addr) (ns : List Int), vs = [.ref a] ∧ SqL K H a (ns.map V.int) ∧ ns.length ≤ 63 ∧ ∀ H', Q (.bl true) H'
theorem On.quarter {x y : Int} (h : On x y) : On (0 - y) x := by unfold On at *; omega
theorem On.mirror {x y : Int} (h : On x y) : On (0 - x) y := by unfold On at *; omega
end My

namespace My
open PySem L2
/-! the steps of a reading -/
local macro_rules | `(tactic| walk_at "t") => `(tactic| first
  | assumption
  | exact tHere
  | exact lHere
  | (refine tOver (by assumption) ?_; walk_at "t")
  | (refine lOver (by assumption) ?_; walk_at "t")
  | (refine tSame (by assumption) ?_; walk_at "t")
  | (refine tBut (by assumption) (by assumption) ?_; walk_at "t"))
local macro_rules | `(tactic| walk_at "ix") => `(tactic| first | exact at0 | exact at1 | exact at2 | exact at3 | rfl)
local macro_rules | `(tactic| walk_at "r1") => `(tactic| first
  | refine ⟨_, rfl, ?_⟩
  | refine ⟨_, _, rfl, rfl, ?_⟩
  | refine ⟨rfl, ?_⟩
  | refine ⟨_, _, _, _, rfl, rfl, (by walk_at "t"), (by walk_at "ix"), ?_⟩
  | refine ⟨small rfl, ?_⟩)
local macro_rules | `(tactic| walk_at "r") => `(tactic| repeat walk_at "r1")

def top (i : Nat) : Stmt := PySem.Challenge.pw_trueatlas_k03_turns.main.body.getD i (.Pass ⟨0, 0, 0, 0⟩)
abbrev s_is_whole : Stmt := (top 4)
abbrev N_is_whole : List Str := ["value"]
theorem sc_is_whole : FnScope N_is_whole ["value"] (defScope s_is_whole) := ⟨rfl, rfl, rfl, by decide +kernel, rfl, by decide +kernel, by decide +kernel⟩

abbrev s_is_pair : Stmt := (top 5)
abbrev N_is_pair : List Str := ["value"]
theorem sc_is_pair : FnScope N_is_pair ["value"] (defScope s_is_pair) := ⟨rfl, rfl, rfl, by decide +kernel, rfl, by decide +kernel, by decide +kernel⟩

abbrev s_need : Stmt := (top 6)
abbrev N_need : List Str := ["holds", "name"]
theorem sc_need : FnScope N_need ["holds", "name"] (defScope s_need) := ⟨rfl, rfl, rfl, by decide +kernel, rfl, by decide +kernel, by decide +kernel⟩

abbrev s_is_coordinate : Stmt := (top 10)
abbrev N_is_coordinate : List Str := ["value"]
theorem sc_is_coordinate : FnScope N_is_coordinate ["value"] (defScope s_is_coordinate) := ⟨rfl, rfl, rfl, by decide +kernel, rfl, by decide +kernel, by decide +kernel⟩

abbrev s_is_point : Stmt := (top 11)
abbrev N_is_point : List Str := ["value"]
theorem sc_is_point : FnScope N_is_point ["value"] (defScope s_is_point) := ⟨rfl, rfl, rfl, by decide +kernel, rfl, by decide +kernel, by decide +kernel⟩

abbrev s_turn_of : Stmt := (top 12)
abbrev N_turn_of : List Str := ["a", "b", "c"]
theorem sc_turn_of : FnScope N_turn_of ["a", "b", "c"] (defScope s_turn_of) := ⟨rfl, rfl, rfl, by decide +kernel, rfl, by decide +kernel, by decide +kernel⟩

abbrev s_turn : Stmt := (top 13)
abbrev N_turn : List Str := ["a", "b", "c"]
theorem sc_turn : FnScope N_turn ["a", "b", "c"] (defScope s_turn) := ⟨rfl, rfl, rfl, by decide +kernel, rfl, by decide +kernel, by decide +kernel⟩

abbrev s__law_stream : Stmt := (top 15)
abbrev N__law_stream : List Str := ["script"]
theorem sc__law_stream : FnScope N__law_stream ["script"] (defScope s__law_stream) := ⟨rfl, rfl, rfl, by decide +kernel, rfl, by decide +kernel, by decide +kernel⟩

abbrev s__law_next : Stmt := (top 16)
abbrev N__law_next : List Str := ["stream", "many", "k", "cell", "digit"]
theorem sc__law_next : FnScope N__law_next ["stream", "many"] (defScope s__law_next) := ⟨rfl, rfl, rfl, by decide +kernel, rfl, by decide +kernel, by decide +kernel⟩

abbrev s__law_is_integer : Stmt := (top 17)
abbrev N__law_is_integer : List Str := ["actual"]
theorem sc__law_is_integer : FnScope N__law_is_integer ["actual"] (defScope s__law_is_integer) := ⟨rfl, rfl, rfl, by decide +kernel, rfl, by decide +kernel, by decide +kernel⟩

abbrev s__law_equal : Stmt := (top 24)
abbrev N__law_equal : List Str := ["actual", "due", "at"]
theorem sc__law_equal : FnScope N__law_equal ["actual", "due"] (defScope s__law_equal) := ⟨rfl, rfl, rfl, by decide +kernel, rfl, by decide +kernel, by decide +kernel⟩

abbrev s__law_turn : Stmt := (top 25)
abbrev N__law_turn : List Str := ["a", "b", "c"]
theorem sc__law_turn : FnScope N__law_turn ["a", "b", "c"] (defScope s__law_turn) := ⟨rfl, rfl, rfl, by decide +kernel, rfl, by decide +kernel, by decide +kernel⟩

abbrev s__law_point : Stmt := (top 28)
abbrev N__law_point : List Str := ["stream", "far"]
theorem sc__law_point : FnScope N__law_point ["stream", "far"] (defScope s__law_point) := ⟨rfl, rfl, rfl, by decide +kernel, rfl, by decide +kernel, by decide +kernel⟩

abbrev s__law_far : Stmt := (top 29)
abbrev N__law_far : List Str := ["stream"]
theorem sc__law_far : FnScope N__law_far ["stream"] (defScope s__law_far) := ⟨rfl, rfl, rfl, by decide +kernel, rfl, by decide +kernel, by decide +kernel⟩

abbrev s__law_quarter : Stmt := (top 31)
abbrev N__law_quarter : List Str := ["p"]
theorem sc__law_quarter : FnScope N__law_quarter ["p"] (defScope s__law_quarter) := ⟨rfl, rfl, rfl, by decide +kernel, rfl, by decide +kernel, by decide +kernel⟩

abbrev s_law : Stmt := (top 32)
abbrev N_law : List Str := ["script", "stream", "far", "a", "b", "c", "d", "due", "dx", "moved", "k", "p"]
theorem sc_law : FnScope N_law ["script"] (defScope s_law) := ⟨rfl, rfl, rfl, by decide +kernel, rfl, by decide +kernel, by decide +kernel⟩

structure Txt (K : PySem.W.Frag) (mg : Str → Option Value) where
  a_is_whole : Addr
  d_is_whole : FuncData
  F_is_whole : Fun K "is_whole" "is_whole" s_is_whole a_is_whole d_is_whole
  m_is_whole : mg "is_whole" = some (.ref a_is_whole)
  b_is_whole : Binds K d_is_whole ["value"] []
  a_is_pair : Addr
  d_is_pair : FuncData
  F_is_pair : Fun K "is_pair" "is_pair" s_is_pair a_is_pair d_is_pair
  m_is_pair : mg "is_pair" = some (.ref a_is_pair)
  b_is_pair : Binds K d_is_pair ["value"] []
  a_need : Addr
  d_need : FuncData
  F_need : Fun K "need" "need" s_need a_need d_need
  m_need : mg "need" = some (.ref a_need)
  b_need : Binds K d_need ["holds", "name"] []
  a_is_coordinate : Addr
  d_is_coordinate : FuncData
  F_is_coordinate : Fun K "is_coordinate" "is_coordinate" s_is_coordinate a_is_coordinate d_is_coordinate
  m_is_coordinate : mg "is_coordinate" = some (.ref a_is_coordinate)
  b_is_coordinate : Binds K d_is_coordinate ["value"] []
  a_is_point : Addr
  d_is_point : FuncData
  F_is_point : Fun K "is_point" "is_point" s_is_point a_is_point d_is_point
  m_is_point : mg "is_point" = some (.ref a_is_point)
  b_is_point : Binds K d_is_point ["value"] []
  a_turn_of : Addr
  d_turn_of : FuncData
  F_turn_of : Fun K "turn_of" "turn_of" s_turn_of a_turn_of d_turn_of
  m_turn_of : mg "turn_of" = some (.ref a_turn_of)
  b_turn_of : Binds K d_turn_of ["a", "b", "c"] []
  a_turn : Addr
  d_turn : FuncData
  F_turn : Fun K "turn" "turn" s_turn a_turn d_turn
  m_turn : mg "turn" = some (.ref a_turn)
  b_turn : Binds K d_turn ["a", "b", "c"] []
  a__law_stream : Addr
  d__law_stream : FuncData
  F__law_stream : Fun K "_law_stream" "_law_stream" s__law_stream a__law_stream d__law_stream
  m__law_stream : mg "_law_stream" = some (.ref a__law_stream)
  b__law_stream : Binds K d__law_stream ["script"] []
  a__law_next : Addr
  d__law_next : FuncData
  F__law_next : Fun K "_law_next" "_law_next" s__law_next a__law_next d__law_next
  m__law_next : mg "_law_next" = some (.ref a__law_next)
  b__law_next : Binds K d__law_next ["stream", "many"] []
  a__law_is_integer : Addr
  d__law_is_integer : FuncData
  F__law_is_integer : Fun K "_law_is_integer" "_law_is_integer" s__law_is_integer a__law_is_integer d__law_is_integer
  m__law_is_integer : mg "_law_is_integer" = some (.ref a__law_is_integer)
  b__law_is_integer : Binds K d__law_is_integer ["actual"] []
  a__law_equal : Addr
  d__law_equal : FuncData
  F__law_equal : Fun K "_law_equal" "_law_equal" s__law_equal a__law_equal d__law_equal
  m__law_equal : mg "_law_equal" = some (.ref a__law_equal)
  b__law_equal : Binds K d__law_equal ["actual", "due"] []
  a__law_turn : Addr
  d__law_turn : FuncData
  F__law_turn : Fun K "_law_turn" "_law_turn" s__law_turn a__law_turn d__law_turn
  m__law_turn : mg "_law_turn" = some (.ref a__law_turn)
  b__law_turn : Binds K d__law_turn ["a", "b", "c"] []
  a__law_point : Addr
  d__law_point : FuncData
  F__law_point : Fun K "_law_point" "_law_point" s__law_point a__law_point d__law_point
  m__law_point : mg "_law_point" = some (.ref a__law_point)
  b__law_point : Binds K d__law_point ["stream", "far"] []
  a__law_far : Addr
  d__law_far : FuncData
  F__law_far : Fun K "_law_far" "_law_far" s__law_far a__law_far d__law_far
  m__law_far : mg "_law_far" = some (.ref a__law_far)
  b__law_far : Binds K d__law_far ["stream"] []
  a__law_quarter : Addr
  d__law_quarter : FuncData
  F__law_quarter : Fun K "_law_quarter" "_law_quarter" s__law_quarter a__law_quarter d__law_quarter
  m__law_quarter : mg "_law_quarter" = some (.ref a__law_quarter)
  b__law_quarter : Binds K d__law_quarter ["p"] []
  a_law : Addr
  d_law : FuncData
  F_law : Fun K "law" "law" s_law a_law d_law
  m_law : mg "law" = some (.ref a_law)
  b_law : Binds K d_law ["script"] []
  n_abs : mg "abs" = none
  n_all : mg "all" = none
  n_bool : mg "bool" = none
  n_int : mg "int" = none
  n_isinstance : mg "isinstance" = none
  n_len : mg "len" = none
  n_list : mg "list" = none
  n_range : mg "range" = none
  n_str : mg "str" = none
  n_tuple : mg "tuple" = none
  c_HIGHEST : ∃ t, mg "HIGHEST" = some (.int (1000) t)
  c_LOWEST : ∃ t, mg "LOWEST" = some (.int (-1000) t)

section
variable {P : Program} {w : World} {K : PySem.W.Frag} {mg : Str → Option Value} {base : Heap}


theorem ok_is_whole (T : Txt K mg) : FnOk P w K mg base CX0 1 T.a_is_whole T.d_is_whole ["value"] (fun vs H Q _ => ∃ x n, vs = [x] ∧ Ty K H x n ∧ Q (.bl (n == "int")) H) := by
  refine T.F_is_whole.ok sc_is_whole (fun vs H Q E h => ?_) (fun cdv A outer s H vs Q E hr h => ?_)
  · obtain ⟨x, n, rfl, hx, k⟩ := h
    rfl
  · obtain ⟨x, n, rfl, hx, k⟩ := h
    refine ⟨_, (pss_one (ps_ret (pe_and (pe_callB call_isi (by rfl) T.n_isinstance (by decide +kernel) (pa_cons (pv 0) (pa_cons (pe_bltn (v := .ty "int") (by rfl) T.n_int (by decide +kernel) rfl) pa_nil))) (pe_one (pe_not (pe_callB call_isi (by rfl) T.n_isinstance (by decide +kernel) (pa_cons (pv 0) (pa_cons (pe_bltn (v := .ty "bool") (by rfl) T.n_bool (by decide +kernel) rfl) pa_nil)))))))), ?_⟩
    refine ⟨_, rfl, ⟨_, _, _, _, _, rfl, .ty _, (hx).x, isaN (Ty.six hx) (by simp [My.six]), ⟨_, rfl, ?_⟩⟩⟩
    cases hx
    all_goals first | (refine ifTr (by decide) ?_) | (refine ifFa (by decide) ?_; exact k)
    · exact ⟨_, rfl, ⟨_, _, _, _, _, rfl, .ty _, ((Ty.bl _)).x, isaN (by simp [My.six]) (by simp [My.six]), ⟨_, rfl, k⟩⟩⟩
    · exact ⟨_, rfl, ⟨_, _, _, _, _, rfl, .ty _, ((Ty.int _)).x, isaN (by simp [My.six]) (by simp [My.six]), ⟨_, rfl, k⟩⟩⟩

theorem ok_is_pair (T : Txt K mg) : FnOk P w K mg base CX0 1 T.a_is_pair T.d_is_pair ["value"] (fun vs H Q _ => ∃ x n, vs = [x] ∧ Ty K H x n ∧ (n = "tuple" → ∃ a xs, x = .ref a ∧ SqT K H a xs ∧ Q (.bl (xs.length == 2)) H) ∧ (n ≠ "tuple" → Q (.bl false) H)) := by
  refine T.F_is_pair.ok sc_is_pair (fun vs H Q E h => ?_) (fun cdv A outer s H vs Q E hr h => ?_)
  · obtain ⟨x, n, rfl, hx, k1, k2⟩ := h
    rfl
  · obtain ⟨x, n, rfl, hx, k1, k2⟩ := h
    refine ⟨_, (pss_one (ps_ret (pe_and (pe_callB call_isi (by rfl) T.n_isinstance (by decide +kernel) (pa_cons (pv 0) (pa_cons (pe_bltn (v := .ty "tuple") (by rfl) T.n_tuple (by decide +kernel) rfl) pa_nil))) (pe_one (pe_cmpR op_eq (pe_callB call_len (by rfl) T.n_len (by decide +kernel) (pa_cons (pv 0) pa_nil)) pe_int (nomark _)))))), ?_⟩
    refine ⟨_, rfl, ⟨_, _, _, _, _, rfl, .ty _, (hx).x, isaN (Ty.six hx) (by simp [My.six]), ⟨_, rfl, ?_⟩⟩⟩
    by_cases e : n = "tuple"
    · subst e
      refine ifTr (by decide) ?_
      obtain ⟨a, xs, rfl, ht, k⟩ := k1 rfl
      refine ⟨_, rfl, _, _, rfl, .inr ⟨xs, ht, rfl⟩, rfl, ?_⟩
      have e : decide (V.int (xs.length : Int) = V.int 2) = (xs.length == 2) := by
        by_cases q : xs.length = 2
        · rw [q]; rfl
        · rw [beq_false_of_ne q]; exact decide_eq_false fun z => q (by injection z with z; omega)
      rw [e]
      exact k
    · refine ifFa ?_ (k2 e)
      cases hx <;> first | rfl | exact absurd rfl e

theorem ok_need (T : Txt K mg) : FnOk P w K mg base CX0 2 T.a_need T.d_need ["holds", "name"] (fun vs H Q _ => ∃ b x, vs = [.bl b, x] ∧ b = true ∧ Q .non H) := by
  refine T.F_need.ok sc_need (fun vs H Q E h => ?_) (fun cdv A outer s H vs Q E hr h => ?_)
  · obtain ⟨b, x, rfl, rfl, k⟩ := h
    rfl
  · obtain ⟨b, x, rfl, rfl, k⟩ := h
    refine ⟨_, (pss_one (ps_if (pt_not (pt_val (pv 0)))
        (pss_one ps_never)
        pss_nil)), ?_⟩
    exact ⟨_, rfl, _, rfl, iteF k⟩

theorem ok_is_coordinate (T : Txt K mg) : FnOk P w K mg base CX0 2 T.a_is_coordinate T.d_is_coordinate ["value"] (fun vs H Q _ => ∃ x n, vs = [x] ∧ Ty K H x n ∧ Q (.bl (coordB x)) H) := by
  refine T.F_is_coordinate.ok sc_is_coordinate (fun vs H Q E h => ?_) (fun cdv A outer s H vs Q E hr h => ?_)
  · obtain ⟨x, n, rfl, hx, k⟩ := h
    rfl
  · obtain ⟨x, n, rfl, hx, k⟩ := h
    refine ⟨_, (pss_one (ps_ret (pe_and (pe_call (ok_is_whole T) (hr.mono (by omega)) rfl T.m_is_whole T.F_is_whole.kp T.b_is_whole .nil pass0 (pa_cons (pv 0) pa_nil)) (pe_one (pe_chain op_le op_le (pe_gI T.c_LOWEST) (pv 0) (pe_gI T.c_HIGHEST)))))), ?_⟩
    refine ⟨_, rfl, _, _, rfl, hx, ⟨_, rfl, ?_⟩⟩
    cases hx
    all_goals first | (refine ifTr (by decide) ?_) | (refine ifFa (by decide) ?_; exact k)
    rename_i i
    refine ⟨_, rfl, _, _, rfl, rfl, ⟨_, rfl, ?_⟩⟩
    refine ifB (fun e => ?_) (fun e => ?_)
    · refine ⟨_, _, rfl, rfl, ?_⟩
      rw [show coordB (.int i) = (decide (-1000 ≤ i) && decide (i ≤ 1000)) from rfl, e, Bool.true_and] at k
      exact k
    · rw [show coordB (.int i) = (decide (-1000 ≤ i) && decide (i ≤ 1000)) from rfl, e, Bool.false_and] at k
      exact k

theorem ok_is_point (T : Txt K mg) : FnOk P w K mg base CX0 3 T.a_is_point T.d_is_point ["value"] (fun vs H Q _ => ∃ x n, vs = [x] ∧ Ty K H x n ∧ (n = "tuple" → ∃ a xs, x = .ref a ∧ SqT K H a xs ∧ (∀ v ∈ xs, ∃ m, Ty K H v m) ∧ Q (.bl (pointB xs)) H) ∧ (n ≠ "tuple" → Q (.bl false) H)) := by
  refine T.F_is_point.ok sc_is_point (fun vs H Q E h => ?_) (fun cdv A outer s H vs Q E hr h => ?_)
  · obtain ⟨x, n, rfl, hx, k1, k2⟩ := h
    rfl
  · obtain ⟨x, n, rfl, hx, k1, k2⟩ := h
    refine ⟨_, (pss_one (ps_ret (pe_and (pe_call (ok_is_pair T) (hr.mono (by omega)) rfl T.m_is_pair T.F_is_pair.kp T.b_is_pair .nil pass0 (pa_cons (pv 0) pa_nil)) (pe_and (pe_call (ok_is_coordinate T) (hr.mono (by omega)) rfl T.m_is_coordinate T.F_is_coordinate.kp T.b_is_coordinate .nil pass0 (pa_cons (pe_ix (r := rIxT K) ix_tup (pv 0) pe_int (fun _ _ => rfl)) pa_nil)) (pe_one (pe_call (ok_is_coordinate T) (hr.mono (by omega)) rfl T.m_is_coordinate T.F_is_coordinate.kp T.b_is_coordinate .nil pass0 (pa_cons (pe_ix (r := rIxT K) ix_tup (pv 0) pe_int (fun _ _ => rfl)) pa_nil))))))), ?_⟩
    refine ⟨_, rfl, _, _, rfl, hx, fun e => ?_, fun e => ?_⟩
    · obtain ⟨a, xs, rfl, ht, hm, k⟩ := k1 e
      refine ⟨a, xs, rfl, ht, _, rfl, ?_⟩
      match xs, ht, hm, k with
      | [], _, _, k => exact iteF k
      | [_], _, _, k => exact iteF k
      | [u, v], ht, hm, k =>
        refine iteT ?_
        obtain ⟨m1, t1⟩ := hm u (by simp)
        obtain ⟨m2, t2⟩ := hm v (by simp)
        refine ⟨_, rfl, _, _, _, _, rfl, rfl, ht, at0, _, _, rfl, t1, _, rfl, ?_⟩
        rw [show pointB [u, v] = (coordB u && coordB v) from rfl] at k
        refine ifB (fun e => ?_) (fun e => ?_)
        · refine ⟨_, rfl, _, _, _, _, rfl, rfl, ht, at1, _, _, rfl, t2, ?_⟩
          rw [e, Bool.true_and] at k
          exact k
        · rw [e, Bool.false_and] at k
          exact k
      | _ :: _ :: _ :: r, _, _, k =>
        refine ifFa ?_ k
        exact beq_false_of_ne (by simp)
    · exact ⟨_, rfl, iteF (k2 e)⟩

theorem ok_turn_of (T : Txt K mg) : FnOk P w K mg base CX0 1 T.a_turn_of T.d_turn_of ["a", "b", "c"] (fun vs H Q _ => ∃ (a b c : Addr) (ax ay bx dy cx cy : Int), vs = [.ref a, .ref b, .ref c] ∧ SqT K H a [.int ax, .int ay] ∧ SqT K H b [.int bx, .int dy] ∧ SqT K H c [.int cx, .int cy] ∧ (Sm ax ∧ Sm bx ∧ Sm ay ∧ Sm dy) ∧ Q (.int (turnI ax ay bx dy cx cy)) H) := by
  refine T.F_turn_of.ok sc_turn_of (fun vs H Q E h => ?_) (fun cdv A outer s H vs Q E hr h => ?_)
  · obtain ⟨a, b, c, ax, ay, bx, dy, cx, cy, rfl, ha, hb, hc, ⟨s1, s2, s3, s4⟩, k⟩ := h
    rfl
  · obtain ⟨a, b, c, ax, ay, bx, dy, cx, cy, rfl, ha, hb, hc, ⟨s1, s2, s3, s4⟩, k⟩ := h
    refine ⟨_, (pss_one (ps_ret (pe_op op_sub (pe_op op_mul (pe_op op_sub (pe_ix (r := rIxT K) ix_tup (pv 1) pe_int (fun _ _ => rfl)) (pe_ix (r := rIxT K) ix_tup (pv 0) pe_int (fun _ _ => rfl))) (pe_op op_sub (pe_ix (r := rIxT K) ix_tup (pv 2) pe_int (fun _ _ => rfl)) (pe_ix (r := rIxT K) ix_tup (pv 0) pe_int (fun _ _ => rfl)))) (pe_op op_mul (pe_op op_sub (pe_ix (r := rIxT K) ix_tup (pv 1) pe_int (fun _ _ => rfl)) (pe_ix (r := rIxT K) ix_tup (pv 0) pe_int (fun _ _ => rfl))) (pe_op op_sub (pe_ix (r := rIxT K) ix_tup (pv 2) pe_int (fun _ _ => rfl)) (pe_ix (r := rIxT K) ix_tup (pv 0) pe_int (fun _ _ => rfl))))))), ?_⟩
    unfold Sm at s1 s2 s3 s4
    refine ⟨_, rfl, _, _, _, _, rfl, rfl, hb, at0, _, rfl, _, _, _, _, rfl, rfl, ha, at0, _, _, rfl, rfl, _, rfl, _, _, _, _, rfl, rfl, hc, at1, _, rfl, _, _, _, _, rfl, rfl, ha, at1, _, _, rfl, rfl, _, _, rfl, rfl, .inl ⟨by omega, by omega⟩, ?_⟩
    exact ⟨_, rfl, _, _, _, _, rfl, rfl, hb, at1, _, rfl, _, _, _, _, rfl, rfl, ha, at1, _, _, rfl, rfl, _, rfl, _, _, _, _, rfl, rfl, hc, at0, _, rfl, _, _, _, _, rfl, rfl, ha, at0, _, _, rfl, rfl, _, _, rfl, rfl, .inl ⟨by omega, by omega⟩, _, _, rfl, rfl, k⟩

theorem ok_turn (T : Txt K mg) : FnOk P w K mg base CX0 4 T.a_turn T.d_turn ["a", "b", "c"] (fun vs H Q _ => ∃ (a b c : Addr) (ax ay bx dy cx cy : Int), vs = [.ref a, .ref b, .ref c] ∧ SqT K H a [.int ax, .int ay] ∧ SqT K H b [.int bx, .int dy] ∧ SqT K H c [.int cx, .int cy] ∧ On ax ay ∧ On bx dy ∧ On cx cy ∧ Q (.int (turnI ax ay bx dy cx cy)) H) := by
  refine T.F_turn.ok sc_turn (fun vs H Q E h => ?_) (fun cdv A outer s H vs Q E hr h => ?_)
  · obtain ⟨a, b, c, ax, ay, bx, dy, cx, cy, rfl, ha, hb, hc, oa, ob, oc, k⟩ := h
    rfl
  · obtain ⟨a, b, c, ax, ay, bx, dy, cx, cy, rfl, ha, hb, hc, oa, ob, oc, k⟩ := h
    refine ⟨_, (pss_cons (ps_expr (pe_call (ok_need T) (hr.mono (by omega)) rfl T.m_need T.F_need.kp T.b_need .nil pass0 (pa_cons (pe_call (ok_is_point T) (hr.mono (by omega)) rfl T.m_is_point T.F_is_point.kp T.b_is_point .nil pass0 (pa_cons (pv 0) pa_nil)) (pa_cons pe_str pa_nil))))
      (pss_cons (ps_expr (pe_call (ok_need T) (hr.mono (by omega)) rfl T.m_need T.F_need.kp T.b_need .nil pass0 (pa_cons (pe_call (ok_is_point T) (hr.mono (by omega)) rfl T.m_is_point T.F_is_point.kp T.b_is_point .nil pass0 (pa_cons (pv 1) pa_nil)) (pa_cons pe_str pa_nil))))
      (pss_cons (ps_expr (pe_call (ok_need T) (hr.mono (by omega)) rfl T.m_need T.F_need.kp T.b_need .nil pass0 (pa_cons (pe_call (ok_is_point T) (hr.mono (by omega)) rfl T.m_is_point T.F_is_point.kp T.b_is_point .nil pass0 (pa_cons (pv 2) pa_nil)) (pa_cons pe_str pa_nil))))
      (pss_one (ps_ret (pe_call (ok_turn_of T) (hr.mono (by omega)) rfl T.m_turn_of T.F_turn_of.kp T.b_turn_of .nil pass0 (pa_cons (pv 0) (pa_cons (pv 1) (pa_cons (pv 2) pa_nil))))))))), ?_⟩
    refine ⟨_, rfl, _, _, rfl, Ty.tup ha, fun _ => ⟨_, _, rfl, ha, two_ints, _, _, rfl, oa.b, ?_⟩, fun e => absurd rfl e⟩
    refine ⟨_, rfl, _, _, rfl, Ty.tup hb, fun _ => ⟨_, _, rfl, hb, two_ints, _, _, rfl, ob.b, ?_⟩, fun e => absurd rfl e⟩
    refine ⟨_, rfl, _, _, rfl, Ty.tup hc, fun _ => ⟨_, _, rfl, hc, two_ints, _, _, rfl, oc.b, ?_⟩, fun e => absurd rfl e⟩
    exact ⟨_, rfl, _, rfl, _, rfl, _, _, _, _, _, _, _, _, _, rfl, ha, hb, hc, ⟨oa.sx, ob.sx, oa.sy, ob.sy⟩, k⟩

theorem ok__law_stream (T : Txt K mg) : FnOk P w K mg base CX0 1 T.a__law_stream T.d__law_stream ["script"] (fun vs H Q _ => ∃ (a : Addr) (ns : List Int), vs = [.ref a] ∧ SqL K H a (ns.map V.int) ∧ ∀ H' s b, Same H H' → H s = none → Strm H' s b → Q (.ref s) H') := by
  refine T.F__law_stream.ok sc__law_stream (fun vs H Q E h => ?_) (fun cdv A outer s H vs Q E hr h => ?_)
  · obtain ⟨a, ns, rfl, hS, k⟩ := h
    rfl
  · obtain ⟨a, ns, rfl, hS, k⟩ := h
    refine ⟨_, (pss_one (ps_ret (pe_lst (pa_cons (pe_callTy call_list_of (by rfl) T.n_list (by decide +kernel) (pa_cons (pv 0) pa_nil)) (pa_cons pe_int (pa_cons pe_int pa_nil)))))), ?_⟩
    refine ⟨_, rfl, _, _, rfl, .inl hS, fun b hb => ⟨small rfl, fun s hs => ?_⟩⟩
    have hs' := hs
    have nb : s ≠ b := fun e => by rw [e, upd_same] at hs'; cases hs'
    rw [upd_ne nb] at hs'
    exact k _ s b (same_then (same_new hb) hs) hs' ⟨ns, 0, 0, by rw [upd_ne nb.symm, upd_same], upd_same, by decide, by decide⟩

theorem ok__law_next (T : Txt K mg) : FnOk P w K mg base CX0 1 T.a__law_next T.d__law_next ["stream", "many"] (fun vs H Q _ => ∃ (s : Addr) (m : Int) (b : Addr), vs = [.ref s, .int m] ∧ 0 < m ∧ m < 2 ^ 200 ∧ Strm H s b ∧ ∀ (d : Int) H', 0 ≤ d → d < m → Strm H' s b → But s H H' → Q (.int d) H') := by
  refine T.F__law_next.ok sc__law_next (fun vs H Q E h => ?_) (fun cdv A outer s H vs Q E hr h => ?_)
  · obtain ⟨s, m, b, rfl, m0, m1, S, k⟩ := h
    rfl
  · obtain ⟨s, m, b, rfl, m0, m1, S, k⟩ := h
    refine ⟨_, (C8.pss_cut (ps_if (pt_cmpR op_eq (pe_ix (r := rIxL K) ix_list (pv 0) pe_int (fun _ _ => rfl)) pe_int (nomark _))
        (pss_cons (ps_set (i := 2) sc__law_next.nd rfl (Or.inl rfl) (pe_ix (r := rIxL K) ix_list (pv 0) pe_int (fun _ _ => rfl)))
        (pss_cons (ps_set (i := 3) sc__law_next.nd rfl (Or.inl rfl) (pe_op op_add pe_int (pv 2)))
        (C8.pss_cut (ps_if (pt_cmpR op_lt (pv 2) (pe_callB call_len (by rfl) T.n_len (by decide +kernel) (pa_cons (pe_ix (r := rIxL K) ix_list (pv 0) pe_int (fun _ _ => rfl)) pa_nil)) (nomark _))
          (pss_one (ps_set (i := 3) sc__law_next.nd rfl (Or.inl rfl) (pe_callB call_abs (by rfl) T.n_abs (by decide +kernel) (pa_cons (pe_ix (r := rIxL K) ix_list (pe_ix (r := rIxL K) ix_list (pv 0) pe_int (fun _ _ => rfl)) (pv 2) (fun _ _ => rfl)) pa_nil))))
          pss_nil)
        (C8.pss_cut (ps_if (pt_cmpR op_lt (pv 3) (pe_op op_pow pe_int pe_int) (nomark _))
          (pss_cons (ps_set (i := 3) sc__law_next.nd rfl (Or.inl rfl) (pe_op op_modN (pe_callTy call_int1 (by rfl) T.n_int (by decide +kernel) (pa_cons (pe_op op_add (pe_op op_add (pe_op op_mul (pv 3) pe_int) (pe_op op_mul (pv 2) pe_int)) pe_int) pa_nil)) pe_int))
          (pss_one (ps_set (i := 3) sc__law_next.nd rfl (Or.inl rfl) (pe_op op_add (pe_op op_mul (pe_op op_modN (pe_callTy call_int1 (by rfl) T.n_int (by decide +kernel) (pa_cons (pe_op op_add (pe_op op_mul (pv 3) pe_int) pe_int) pa_nil)) pe_int) pe_int) (pv 3)))))
          pss_nil)
        (pss_cons (ps_asg (pv 3) (pg_sub (pv 0) pe_int set_list))
        (pss_one (ps_asg (pe_op op_add (pv 2) pe_int) (pg_sub (pv 0) pe_int set_list))))))))
        pss_nil)
      (pss_cons (ps_set (i := 4) sc__law_next.nd rfl (Or.inl rfl) (pe_op op_modN (pe_callTy call_int1 (by rfl) T.n_int (by decide +kernel) (pa_cons (pe_ix (r := rIxL K) ix_list (pv 0) pe_int (fun _ _ => rfl)) pa_nil)) (pv 1)))
      (pss_cons (ps_asg (pe_op op_fdivW (pe_ix (r := rIxL K) ix_list (pv 0) pe_int (fun _ _ => rfl)) (pv 1)) (pg_sub (pv 0) pe_int set_list))
      (pss_one (ps_ret (pv 4)))))), ?_⟩
    obtain ⟨ns, c, kk, hb, hs, c0, k0⟩ := S
    have nbs : b ≠ s := Strm.ne hb hs
    refine ⟨fun σ' H' => ∃ (c kk : Int) (o1 o2 : Option V), σ' = [some (.ref s), some (.int m), o1, o2, none] ∧ H' b = some (.lst (ns.map V.int)) ∧ H' s = some (.lst [.ref b, .int c, .int kk]) ∧ 0 ≤ c ∧ 0 ≤ kk ∧ But s H H', ?_, ?_⟩
    rotate_left
    · rintro σ' H1 ⟨c, kk, o1, o2, rfl, hb, hs, c0, k0, hB⟩
      refine ⟨_, rfl, _, _, _, _, rfl, rfl, SqL.of hs, at1, .inl ⟨_, rfl, _, rfl, _, _, rfl, rfl, by omega, ?_⟩⟩
      refine ⟨_, rfl, _, _, _, _, rfl, rfl, SqL.of hs, at1, _, rfl, _, _, rfl, rfl, wide_div (b := 200) m0 (by omega) (by decide) (by decide), _, rfl, _, _, _, 1, rfl, rfl, hs, rfl, ?_⟩
      refine ⟨_, rfl, ?_⟩
      exact k _ _ (fmod_ge m0) (fmod_lt m0) ⟨ns, c / m, kk, by rw [upd_ne nbs]; exact hb, upd_same, div_ge c0 m0, k0⟩ hB.then_at
    refine ⟨_, rfl, _, _, _, _, rfl, rfl, SqL.of hs, at1, rfl, _, rfl, ?_⟩
    refine ifD (fun e => ?_) (fun e => ⟨c, kk, none, none, rfl, hb, hs, c0, k0, But.refl⟩)
    refine ⟨_, rfl, _, _, _, _, rfl, rfl, SqL.of hs, at2, _, rfl, _, _, rfl, rfl, ?_⟩
    -- if k < len(stream[0])
    have mid : ∀ (cell : Int) (t u : TS) (D : Ends) (σ : St) (H1 : Hp), t { D with nx := fun σ' H' => ∃ cell : Int, σ' = [some (.ref s), some (.int m), some (.int kk), some (.int cell), none] ∧ H' = H ∧ 0 ≤ cell } σ H1 → (∀ cell : Int, 0 ≤ cell → u D [some (.ref s), some (.int m), some (.int kk), some (.int cell), none] H) → C8.tCut t u D σ H1 := by
      intro _ t u D σ H1 h1 h2
      exact ⟨_, h1, fun σ' H' ⟨cell, e1, e2, e3⟩ => by rw [e1, e2]; exact h2 cell e3⟩
    refine mid 0 _ _ _ _ _ ?_ fun cell p0 => mid 0 _ _ _ _ _ ?_ fun cell p0 => ?_
    · refine ⟨_, rfl, _, rfl, _, _, _, _, rfl, rfl, SqL.of hs, at0, _, _, rfl, .inl ⟨_, SqL.of hb, rfl⟩, _, _, rfl, rfl, _, rfl, ?_⟩
      refine ifD (fun e => ?_) (fun e => ⟨_, rfl, rfl, by omega⟩)
      have hk : kk.toNat < ns.length := by rw [List.length_map] at e; omega
      refine ⟨_, rfl, _, _, _, _, rfl, rfl, SqL.of hs, at0, _, rfl, _, _, kk, _, rfl, rfl, SqL.of hb, at_of (j := kk.toNat) (v := V.int ns[kk.toNat]) (by omega) (by rw [List.getElem?_map, List.getElem?_eq_getElem hk]; rfl), _, rfl, ?_⟩
      exact ⟨_, rfl, rfl, by split <;> omega⟩
    · refine ⟨_, rfl, _, _, rfl, rfl, ⟨by decide, by decide, by decide⟩, _, _, rfl, rfl, _, rfl, ?_⟩
      refine ifD (fun e => ?_) (fun e => ⟨_, rfl, rfl, p0⟩)
      refine ⟨_, rfl, _, _, rfl, rfl, .inr ⟨by decide, by decide⟩, _, rfl, _, _, rfl, rfl, .inr ⟨by decide, by decide⟩, _, _, rfl, rfl, _, _, rfl, rfl, .inl ⟨_, rfl, _, _, rfl, rfl, show (2147483647 : Int) ≠ 0 by decide, ?_⟩⟩
      have q0 := fmod_ge (a := cell * 48271 + kk * 69621 + 11) (m := 2147483647) (by decide)
      refine ⟨_, rfl, _, _, rfl, rfl, .inr ⟨by decide, by decide⟩, _, _, rfl, rfl, .inl ⟨_, rfl, _, _, rfl, rfl, show (2147483647 : Int) ≠ 0 by decide, _, _, rfl, rfl, .inr ⟨by decide, by decide⟩, _, rfl, _, _, rfl, rfl, ?_⟩⟩
      have q1 := fmod_ge (a := (cell * 48271 + kk * 69621 + 11).fmod 2147483647 * 16807 + 13) (m := 2147483647) (by decide)
      exact ⟨_, rfl, rfl, by omega⟩
    refine ⟨_, rfl, _, rfl, _, _, _, 1, rfl, rfl, hs, rfl, ?_⟩
    refine ⟨_, rfl, _, _, rfl, rfl, _, rfl, _, _, _, 2, rfl, rfl, upd_same, rfl, ?_⟩
    exact ⟨cell, kk + 1, _, _, rfl, by rw [upd_ne nbs, upd_ne nbs]; exact hb, upd_same, p0, by omega, But.at.then_at⟩

theorem ok__law_is_integer (T : Txt K mg) : FnOk P w K mg base CX0 1 T.a__law_is_integer T.d__law_is_integer ["actual"] (fun vs H Q _ => ∃ x n, vs = [x] ∧ Ty K H x n ∧ Q (.bl (n == "int")) H) := by
  refine T.F__law_is_integer.ok sc__law_is_integer (fun vs H Q E h => ?_) (fun cdv A outer s H vs Q E hr h => ?_)
  · obtain ⟨x, n, rfl, hx, k⟩ := h
    rfl
  · obtain ⟨x, n, rfl, hx, k⟩ := h
    refine ⟨_, (pss_one (ps_ret (pe_and (pe_callB call_isi (by rfl) T.n_isinstance (by decide +kernel) (pa_cons (pv 0) (pa_cons (pe_bltn (v := .ty "int") (by rfl) T.n_int (by decide +kernel) rfl) pa_nil))) (pe_one (pe_not (pe_callB call_isi (by rfl) T.n_isinstance (by decide +kernel) (pa_cons (pv 0) (pa_cons (pe_bltn (v := .ty "bool") (by rfl) T.n_bool (by decide +kernel) rfl) pa_nil)))))))), ?_⟩
    refine ⟨_, rfl, ⟨_, _, _, _, _, rfl, .ty _, (hx).x, isaN (Ty.six hx) (by simp [My.six]), ⟨_, rfl, ?_⟩⟩⟩
    cases hx
    all_goals first | (refine ifTr (by decide) ?_) | (refine ifFa (by decide) ?_; exact k)
    · exact ⟨_, rfl, ⟨_, _, _, _, _, rfl, .ty _, ((Ty.bl _)).x, isaN (by simp [My.six]) (by simp [My.six]), ⟨_, rfl, k⟩⟩⟩
    · exact ⟨_, rfl, ⟨_, _, _, _, _, rfl, .ty _, ((Ty.int _)).x, isaN (by simp [My.six]) (by simp [My.six]), ⟨_, rfl, k⟩⟩⟩


def spEq (K : PySem.W.Frag) (n : Nat) : Sp := fun vs H Q _ => ∃ x y, vs = [x, y] ∧ Dq K H n x y ∧ ∀ H', Same H H' → Q (.bl true) H'
theorem ok__law_equal (T : Txt K mg) : ∀ n : Nat, FnOk P w K mg base CX0 (n + 1) T.a__law_equal T.d__law_equal ["actual", "due"] (spEq K n)
  | 0 => T.F__law_equal.ok sc__law_equal (fun vs H Q E h => by obtain ⟨x, y, rfl, hd, _⟩ := h; cases hd) (fun cdv A outer s H vs Q E hr h => by obtain ⟨x, y, rfl, hd, _⟩ := h; cases hd)
  | n + 1 => by
    have ih : FnOk P w K mg base CX0 (n + 1) T.a__law_equal T.d__law_equal ["actual", "due"] (spEq K n) := ok__law_equal T n
    refine T.F__law_equal.ok sc__law_equal (fun vs H Q E h => ?_) (fun cdv A outer s H vs Q E hr h => ?_)
    · obtain ⟨x, y, rfl, _⟩ := h
      rfl
    · obtain ⟨x, y, rfl, hd, k⟩ := h
      refine ⟨_, (pss_cons (ps_if (pt_cmpR op_isN (pv 1) pe_non (nomark _))
        (pss_one (ps_ret (pe_cmpR op_isN (pv 0) pe_non (nomark _))))
        pss_nil)
      (pss_cons (ps_if (pt_val (pe_callB call_isi (by rfl) T.n_isinstance (by decide +kernel) (pa_cons (pv 1) (pa_cons (pe_bltn (v := .ty "bool") (by rfl) T.n_bool (by decide +kernel) rfl) pa_nil))))
        (pss_one (ps_ret (pe_and (pe_callB call_isi (by rfl) T.n_isinstance (by decide +kernel) (pa_cons (pv 0) (pa_cons (pe_bltn (v := .ty "bool") (by rfl) T.n_bool (by decide +kernel) rfl) pa_nil))) (pe_one (pe_cmpR op_eq (pv 0) (pv 1) (nomark _))))))
        pss_nil)
      (pss_cons (ps_if (pt_val (pe_callB call_isi (by rfl) T.n_isinstance (by decide +kernel) (pa_cons (pv 1) (pa_cons (pe_bltn (v := .ty "int") (by rfl) T.n_int (by decide +kernel) rfl) pa_nil))))
        (pss_one (ps_ret (pe_and (pe_call (ok__law_is_integer T) (hr.mono (by omega)) rfl T.m__law_is_integer T.F__law_is_integer.kp T.b__law_is_integer .nil pass0 (pa_cons (pv 0) pa_nil)) (pe_one (pe_cmpR op_eq (pv 0) (pv 1) (nomark _))))))
        pss_nil)
      (pss_cons (ps_if (pt_val (pe_callB call_isi (by rfl) T.n_isinstance (by decide +kernel) (pa_cons (pv 1) (pa_cons (pe_bltn (v := .ty "str") (by rfl) T.n_str (by decide +kernel) rfl) pa_nil))))
        (pss_one (ps_ret (pe_and (pe_callB call_isi (by rfl) T.n_isinstance (by decide +kernel) (pa_cons (pv 0) (pa_cons (pe_bltn (v := .ty "str") (by rfl) T.n_str (by decide +kernel) rfl) pa_nil))) (pe_one (pe_cmpR op_eq (pv 0) (pv 1) (nomark _))))))
        pss_nil)
      (pss_cons (ps_if (PW.pt (pw_and (pt_val (pe_callB call_isi (by rfl) T.n_isinstance (by decide +kernel) (pa_cons (pv 1) (pa_cons (pe_bltn (v := .ty "tuple") (by rfl) T.n_tuple (by decide +kernel) rfl) pa_nil)))) (pw_and1 (pt_not (pt_val (pe_callB call_isi (by rfl) T.n_isinstance (by decide +kernel) (pa_cons (pv 0) (pa_cons (pe_bltn (v := .ty "tuple") (by rfl) T.n_tuple (by decide +kernel) rfl) pa_nil))))))))
        (pss_one (ps_ret pe_bl))
        pss_nil)
      (pss_cons (ps_if (PW.pt (pw_and (pt_val (pe_callB call_isi (by rfl) T.n_isinstance (by decide +kernel) (pa_cons (pv 1) (pa_cons (pe_bltn (v := .ty "list") (by rfl) T.n_list (by decide +kernel) rfl) pa_nil)))) (pw_and1 (pt_not (pt_val (pe_callB call_isi (by rfl) T.n_isinstance (by decide +kernel) (pa_cons (pv 0) (pa_cons (pe_bltn (v := .ty "list") (by rfl) T.n_list (by decide +kernel) rfl) pa_nil))))))))
        (pss_one (ps_ret pe_bl))
        pss_nil)
      (pss_cons (ps_if (pt_cmpR op_ne (pe_callB call_len (by rfl) T.n_len (by decide +kernel) (pa_cons (pv 0) pa_nil)) (pe_callB call_len (by rfl) T.n_len (by decide +kernel) (pa_cons (pv 1) pa_nil)) (nomark _))
        (pss_one (ps_ret pe_bl))
        pss_nil)
      (pss_one (ps_ret (pe_callB (cr_all rfl) (by rfl) T.n_all (by decide +kernel) (pa_cons (pe_lc (own := [("at", 2)]) (g := gName 2) (tt := tYes) rfl sc__law_equal.nd (pi_range1 rfl T.n_range (pa_cons (pe_callB call_len (by rfl) T.n_len (by decide +kernel) (pa_cons (pv 1) pa_nil)) pa_nil)) (blkOk_by (own := [("at", 2)]) (N := N__law_equal) (sc := defScope s__law_equal) (by decide +kernel)) (fun _ _ _ _ _ => pg_name (i := 2) sc__law_equal.nd rfl (Or.inl rfl)) (fun _ _ _ _ _ => pts_nil) (fun _ _ _ _ _ => (pe_call ih (hr.mono (by omega)) rfl T.m__law_equal T.F__law_equal.kp T.b__law_equal .nil pass0 (pa_cons (pe_ix (r := rIx K) ix_seq (pv 0) (pv 2) (fun _ _ => rfl)) (pa_cons (pe_ix (r := rIx K) ix_seq (pv 1) (pv 2) (fun _ _ => rfl)) pa_nil))))) pa_nil))))))))))), ?_⟩
      cases hd with
      | non => exact ⟨_, rfl, rfl, _, rfl, ifD (fun _ => ⟨_, rfl, rfl, by rw [decide_eq_true rfl]; exact k _ (Same.refl _)⟩) (fun e => absurd rfl e)⟩
      | bl _ b =>
        refine ⟨_, rfl, rfl, _, rfl, ifD (fun e => by cases e) (fun _ => ?_)⟩
        refine ⟨_, rfl, _, _, _, _, _, rfl, .ty _, (Ty.bl b).x, isaN (by simp [My.six]) (by simp [My.six]), _, rfl, ifTr (by decide) ?_⟩
        refine ⟨_, rfl, _, _, _, _, _, rfl, .ty _, (Ty.bl b).x, isaN (by simp [My.six]) (by simp [My.six]), _, rfl, ifTr (by decide) ?_⟩
        refine ⟨_, rfl, _, rfl, rfl, ?_⟩
        rw [decide_eq_true rfl]; exact k _ (Same.refl _)
      | int _ i =>
        refine ⟨_, rfl, rfl, _, rfl, ifD (fun e => by cases e) (fun _ => ?_)⟩
        refine ⟨_, rfl, _, _, _, _, _, rfl, .ty _, (Ty.int i).x, isaN (by simp [My.six]) (by simp [My.six]), _, rfl, ifFa (by decide) ?_⟩
        refine ⟨_, rfl, _, _, _, _, _, rfl, .ty _, (Ty.int i).x, isaN (by simp [My.six]) (by simp [My.six]), _, rfl, ifTr (by decide) ?_⟩
        refine ⟨_, rfl, _, _, rfl, .int _, _, rfl, ifTr (by decide) ?_⟩
        refine ⟨_, rfl, _, rfl, rfl, ?_⟩
        rw [decide_eq_true rfl]; exact k _ (Same.refl _)
      | str _ x =>
        refine ⟨_, rfl, rfl, _, rfl, ifD (fun e => by cases e) (fun _ => ?_)⟩
        refine ⟨_, rfl, _, _, _, _, _, rfl, .ty _, (Ty.str x).x, isaN (by simp [My.six]) (by simp [My.six]), _, rfl, ifFa (by decide) ?_⟩
        refine ⟨_, rfl, _, _, _, _, _, rfl, .ty _, (Ty.str x).x, isaN (by simp [My.six]) (by simp [My.six]), _, rfl, ifFa (by decide) ?_⟩
        refine ⟨_, rfl, _, _, _, _, _, rfl, .ty _, (Ty.str x).x, isaN (by simp [My.six]) (by simp [My.six]), _, rfl, ifTr (by decide) ?_⟩
        refine ⟨_, rfl, _, _, _, _, _, rfl, .ty _, (Ty.str x).x, isaN (by simp [My.six]) (by simp [My.six]), _, rfl, ifTr (by decide) ?_⟩
        refine ⟨_, rfl, _, rfl, rfl, ?_⟩
        rw [decide_eq_true rfl]; exact k _ (Same.refl _)
      | @lst _ a b xs ys h1 h2 hl hz h =>
        have hu : True := trivial
        (refine ⟨_, rfl, rfl, _, rfl, ifD (fun e => by cases e) (fun _ => ?_)⟩
         refine ⟨_, rfl, _, _, _, _, _, rfl, .ty _, (Ty.lst h2).x, isaN (by simp [My.six]) (by simp [My.six]), _, rfl, ifFa (by decide) ?_⟩
         refine ⟨_, rfl, _, _, _, _, _, rfl, .ty _, (Ty.lst h2).x, isaN (by simp [My.six]) (by simp [My.six]), _, rfl, ifFa (by decide) ?_⟩
         refine ⟨_, rfl, _, _, _, _, _, rfl, .ty _, (Ty.lst h2).x, isaN (by simp [My.six]) (by simp [My.six]), _, rfl, ifFa (by decide) ?_⟩
         refine ⟨_, rfl, _, _, _, _, _, rfl, .ty _, (Ty.lst h2).x, isaN (by simp [My.six]) (by simp [My.six]), _, rfl, ifFa (by decide) (ifFa rfl ?_)⟩
         refine ⟨_, rfl, _, _, _, _, _, rfl, .ty _, (Ty.lst h2).x, isaN (by simp [My.six]) (by simp [My.six]), _, rfl, ifTr (by decide) ⟨_, rfl, _, _, _, _, _, rfl, .ty _, (Ty.lst h1).x, isaN (by simp [My.six]) (by simp [My.six]), _, rfl, ifFa (by decide) ?_⟩⟩
         refine ⟨_, rfl, _, _, rfl, .inl ⟨_, h1, rfl⟩, _, rfl, _, _, rfl, .inl ⟨_, h2, rfl⟩, rfl, _, rfl, ?_⟩
         refine ifND (fun e => absurd (by rw [hl]) e) (fun _ => ?_)
         refine ⟨_, rfl, _, _, rfl, .inl ⟨_, h2, rfl⟩, ys.length, rfl, by omega, by omega, fun D hD => lc_range (lo := 0) (n := ys.length) (fun i H' => Same H H' ∧ H' D = some (.lst ((List.replicate i true).map V.bl))) ⟨same_new hD, upd_same⟩ ?_ ?_⟩
         · rintro i H1 hi ⟨hS, hD1⟩
           have hx := get_at (xs := xs) (i := i) (by omega)
           have hy := get_at (xs := ys) (i := i) (by omega)
           refine ⟨rfl, ?_⟩
           refine ⟨_, rfl, _, rfl, .inl ⟨_, _, _, _, rfl, rfl, hS.seq h1, at_of (Int.zero_add _) hx, ?_⟩⟩
           refine ⟨_, rfl, _, rfl, .inl ⟨_, _, _, _, rfl, rfl, hS.seq h2, at_of (Int.zero_add _) hy, ?_⟩⟩
           refine ⟨_, _, rfl, (h i _ _ hx hy).same hS, fun H2 hS2 => ?_⟩
           refine ⟨_, hS2 _ _ hD1, by rw [List.length_map, List.length_replicate]; exact Nat.lt_of_lt_of_le (Nat.lt_of_lt_of_le hi hz) (by decide), fun b o e => ?_, ?_⟩
           · have e1 := hS2 _ _ (hS _ _ e)
             rw [upd_ne (ne_of_none e hD)]
             exact e1
           · rw [upd_same, List.replicate_succ', List.map_append]; rfl
         · rintro H1 ⟨hS, hD1⟩
           refine ⟨_, _, rfl, SqL.of hD1, ?_⟩
           rw [show (List.replicate ys.length true).all id = true from by rw [List.all_eq_true]; intro x hx; rw [List.eq_of_mem_replicate hx]; rfl]
           exact k _ hS)
      | @tup _ a b xs ys h1 h2 hl hz h =>
        have hu : True := trivial
        (refine ⟨_, rfl, rfl, _, rfl, ifD (fun e => by cases e) (fun _ => ?_)⟩
         refine ⟨_, rfl, _, _, _, _, _, rfl, .ty _, (Ty.tup h2).x, isaN (by simp [My.six]) (by simp [My.six]), _, rfl, ifFa (by decide) ?_⟩
         refine ⟨_, rfl, _, _, _, _, _, rfl, .ty _, (Ty.tup h2).x, isaN (by simp [My.six]) (by simp [My.six]), _, rfl, ifFa (by decide) ?_⟩
         refine ⟨_, rfl, _, _, _, _, _, rfl, .ty _, (Ty.tup h2).x, isaN (by simp [My.six]) (by simp [My.six]), _, rfl, ifFa (by decide) ?_⟩
         refine ⟨_, rfl, _, _, _, _, _, rfl, .ty _, (Ty.tup h2).x, isaN (by simp [My.six]) (by simp [My.six]), _, rfl, ifTr (by decide) ⟨_, rfl, _, _, _, _, _, rfl, .ty _, (Ty.tup h1).x, isaN (by simp [My.six]) (by simp [My.six]), _, rfl, ifFa (by decide) ?_⟩⟩
         refine ⟨_, rfl, _, _, _, _, _, rfl, .ty _, (Ty.tup h2).x, isaN (by simp [My.six]) (by simp [My.six]), _, rfl, ifFa (by decide) (ifFa rfl ?_)⟩
         refine ⟨_, rfl, _, _, rfl, .inr ⟨_, h1, rfl⟩, _, rfl, _, _, rfl, .inr ⟨_, h2, rfl⟩, rfl, _, rfl, ?_⟩
         refine ifND (fun e => absurd (by rw [hl]) e) (fun _ => ?_)
         refine ⟨_, rfl, _, _, rfl, .inr ⟨_, h2, rfl⟩, ys.length, rfl, by omega, by omega, fun D hD => lc_range (lo := 0) (n := ys.length) (fun i H' => Same H H' ∧ H' D = some (.lst ((List.replicate i true).map V.bl))) ⟨same_new hD, upd_same⟩ ?_ ?_⟩
         · rintro i H1 hi ⟨hS, hD1⟩
           have hx := get_at (xs := xs) (i := i) (by omega)
           have hy := get_at (xs := ys) (i := i) (by omega)
           refine ⟨rfl, ?_⟩
           refine ⟨_, rfl, _, rfl, .inr (.inl ⟨_, _, _, _, rfl, rfl, tSame hS h1, at_of (Int.zero_add _) hx, ?_⟩)⟩
           refine ⟨_, rfl, _, rfl, .inr (.inl ⟨_, _, _, _, rfl, rfl, tSame hS h2, at_of (Int.zero_add _) hy, ?_⟩)⟩
           refine ⟨_, _, rfl, (h i _ _ hx hy).same hS, fun H2 hS2 => ?_⟩
           refine ⟨_, hS2 _ _ hD1, by rw [List.length_map, List.length_replicate]; exact Nat.lt_of_lt_of_le (Nat.lt_of_lt_of_le hi hz) (by decide), fun b o e => ?_, ?_⟩
           · have e1 := hS2 _ _ (hS _ _ e)
             rw [upd_ne (ne_of_none e hD)]
             exact e1
           · rw [upd_same, List.replicate_succ', List.map_append]; rfl
         · rintro H1 ⟨hS, hD1⟩
           refine ⟨_, _, rfl, SqL.of hD1, ?_⟩
           rw [show (List.replicate ys.length true).all id = true from by rw [List.all_eq_true]; intro x hx; rw [List.eq_of_mem_replicate hx]; rfl]
           exact k _ hS)

theorem ok__law_turn (T : Txt K mg) : FnOk P w K mg base CX0 1 T.a__law_turn T.d__law_turn ["a", "b", "c"] (fun vs H Q _ => ∃ (a b c : Addr) (ax ay bx dy cx cy : Int), vs = [.ref a, .ref b, .ref c] ∧ SqT K H a [.int ax, .int ay] ∧ SqT K H b [.int bx, .int dy] ∧ SqT K H c [.int cx, .int cy] ∧ (Sm ax ∧ Sm bx ∧ Sm ay ∧ Sm dy) ∧ Q (.int (turnI ax ay bx dy cx cy)) H) := by
  refine T.F__law_turn.ok sc__law_turn (fun vs H Q E h => ?_) (fun cdv A outer s H vs Q E hr h => ?_)
  · obtain ⟨a, b, c, ax, ay, bx, dy, cx, cy, rfl, ha, hb, hc, ⟨s1, s2, s3, s4⟩, k⟩ := h
    rfl
  · obtain ⟨a, b, c, ax, ay, bx, dy, cx, cy, rfl, ha, hb, hc, ⟨s1, s2, s3, s4⟩, k⟩ := h
    refine ⟨_, (pss_one (ps_ret (pe_op op_sub (pe_op op_mul (pe_op op_sub (pe_ix (r := rIxT K) ix_tup (pv 1) pe_int (fun _ _ => rfl)) (pe_ix (r := rIxT K) ix_tup (pv 0) pe_int (fun _ _ => rfl))) (pe_op op_sub (pe_ix (r := rIxT K) ix_tup (pv 2) pe_int (fun _ _ => rfl)) (pe_ix (r := rIxT K) ix_tup (pv 0) pe_int (fun _ _ => rfl)))) (pe_op op_mul (pe_op op_sub (pe_ix (r := rIxT K) ix_tup (pv 1) pe_int (fun _ _ => rfl)) (pe_ix (r := rIxT K) ix_tup (pv 0) pe_int (fun _ _ => rfl))) (pe_op op_sub (pe_ix (r := rIxT K) ix_tup (pv 2) pe_int (fun _ _ => rfl)) (pe_ix (r := rIxT K) ix_tup (pv 0) pe_int (fun _ _ => rfl))))))), ?_⟩
    unfold Sm at s1 s2 s3 s4
    refine ⟨_, rfl, _, _, _, _, rfl, rfl, hb, at0, _, rfl, _, _, _, _, rfl, rfl, ha, at0, _, _, rfl, rfl, _, rfl, _, _, _, _, rfl, rfl, hc, at1, _, rfl, _, _, _, _, rfl, rfl, ha, at1, _, _, rfl, rfl, _, _, rfl, rfl, .inl ⟨by omega, by omega⟩, ?_⟩
    exact ⟨_, rfl, _, _, _, _, rfl, rfl, hb, at1, _, rfl, _, _, _, _, rfl, rfl, ha, at1, _, _, rfl, rfl, _, rfl, _, _, _, _, rfl, rfl, hc, at0, _, rfl, _, _, _, _, rfl, rfl, ha, at0, _, _, rfl, rfl, _, _, rfl, rfl, .inl ⟨by omega, by omega⟩, _, _, rfl, rfl, k⟩

theorem ok__law_point (T : Txt K mg) : FnOk P w K mg base CX0 2 T.a__law_point T.d__law_point ["stream", "far"] (fun vs H Q _ => ∃ (s : Addr) (far : Int) (b : Addr), vs = [.ref s, .int far] ∧ 0 ≤ far ∧ far ≤ 1000000 ∧ Strm H s b ∧ ∀ (a : Addr) (x y : Int) H', In far x y → Strm H' s b → But s H H' → SqT K H' a [.int x, .int y] → Q (.ref a) H') := by
  refine T.F__law_point.ok sc__law_point (fun vs H Q E h => ?_) (fun cdv A outer s H vs Q E hr h => ?_)
  · obtain ⟨s, far, b, rfl, f0, f1, S, k⟩ := h
    rfl
  · obtain ⟨s, far, b, rfl, f0, f1, S, k⟩ := h
    refine ⟨_, (pss_one (ps_ret (pe_tup (pa_cons (pe_op op_sub (pe_call (ok__law_next T) (hr.mono (by omega)) rfl T.m__law_next T.F__law_next.kp T.b__law_next .nil pass0 (pa_cons (pv 0) (pa_cons (pe_op op_add (pe_op op_mul pe_int (pv 1)) pe_int) pa_nil))) (pv 1)) (pa_cons (pe_op op_sub (pe_call (ok__law_next T) (hr.mono (by omega)) rfl T.m__law_next T.F__law_next.kp T.b__law_next .nil pass0 (pa_cons (pv 0) (pa_cons (pe_op op_add (pe_op op_mul pe_int (pv 1)) pe_int) pa_nil))) (pv 1)) pa_nil))))), ?_⟩
    refine ⟨_, rfl, _, rfl, _, _, rfl, rfl, .inl ⟨by decide, by decide⟩, _, _, rfl, rfl, _, _, _, rfl, by omega, by omega, S, fun d H1 d0 d1 S1 B1 => ?_⟩
    refine ⟨_, rfl, _, _, rfl, rfl, _, rfl, _, rfl, _, _, rfl, rfl, .inl ⟨by decide, by decide⟩, _, _, rfl, rfl, _, _, _, rfl, by omega, by omega, S1, fun e H2 e0 e1 S2 B2 => ?_⟩
    refine ⟨_, rfl, _, _, rfl, rfl, small rfl, fun p hp => ?_⟩
    exact k p (d - far) (e - far) _ ⟨by omega, by omega, by omega, by omega⟩ (S2.over hp) ((B1.trans B2).then_new hp) tHere

theorem ok__law_far (T : Txt K mg) : FnOk P w K mg base CX0 2 T.a__law_far T.d__law_far ["stream"] (fun vs H Q _ => ∃ (s b : Addr), vs = [.ref s] ∧ Strm H s b ∧ ∀ (far : Int) H', Far far → Strm H' s b → But s H H' → Q (.int far) H') := by
  refine T.F__law_far.ok sc__law_far (fun vs H Q E h => ?_) (fun cdv A outer s H vs Q E hr h => ?_)
  · obtain ⟨s, b, rfl, S, k⟩ := h
    rfl
  · obtain ⟨s, b, rfl, S, k⟩ := h
    refine ⟨_, (pss_one (ps_ret (pe_ix (r := rIxL K) ix_list (pe_lst (pa_cons pe_int (pa_cons pe_int (pa_cons pe_int (pa_cons pe_int pa_nil))))) (pe_call (ok__law_next T) (hr.mono (by omega)) rfl T.m__law_next T.F__law_next.kp T.b__law_next .nil pass0 (pa_cons (pv 0) (pa_cons pe_int pa_nil))) (fun _ _ => rfl)))), ?_⟩
    refine ⟨small rfl, fun p hp => ?_⟩
    refine ⟨_, rfl, _, _, _, rfl, by decide, by decide, S.over hp, fun d H1 d0 d1 S1 B1 => ?_⟩
    obtain ⟨v, hv, hf⟩ := atFour (a := V.int 2) (b := .int 4) (c := .int 9) (d := .int 1000) d0 d1
    refine ⟨_, _, _, _, rfl, rfl, SqL.of (rBut B1 hp S), hv, ?_⟩
    have B : But s H H1 := (But.new hp).trans B1
    rcases hf with rfl | rfl | rfl | rfl
    · exact k 2 _ (.inl rfl) S1 B
    · exact k 4 _ (.inr (.inl rfl)) S1 B
    · exact k 9 _ (.inr (.inr (.inl rfl))) S1 B
    · exact k 1000 _ (.inr (.inr (.inr rfl))) S1 B

theorem ok__law_quarter (T : Txt K mg) : FnOk P w K mg base CX0 1 T.a__law_quarter T.d__law_quarter ["p"] (fun vs H Q _ => ∃ (a : Addr) (x y : Int), vs = [.ref a] ∧ SqT K H a [.int x, .int y] ∧ ∀ p, H p = none → Q (.ref p) (upd H p (.tup [.int (0 - y), .int x]))) := by
  refine T.F__law_quarter.ok sc__law_quarter (fun vs H Q E h => ?_) (fun cdv A outer s H vs Q E hr h => ?_)
  · obtain ⟨a, x, y, rfl, ha, k⟩ := h
    rfl
  · obtain ⟨a, x, y, rfl, ha, k⟩ := h
    refine ⟨_, (pss_one (ps_ret (pe_tup (pa_cons (pe_op op_sub pe_int (pe_ix (r := rIxT K) ix_tup (pv 0) pe_int (fun _ _ => rfl))) (pa_cons (pe_ix (r := rIxT K) ix_tup (pv 0) pe_int (fun _ _ => rfl)) pa_nil))))), ?_⟩
    refine ⟨_, rfl, _, _, _, _, rfl, rfl, ha, at1, _, _, rfl, rfl, _, rfl, _, _, _, _, rfl, rfl, ha, at0, small rfl, fun p hp => k p hp⟩

theorem ok_law (T : Txt K mg) : FnOk P w K mg base CX0 6 T.a_law T.d_law ["script"] (spLaw K) := by
  refine T.F_law.ok sc_law (fun vs H Q E h => ?_) (fun cdv A outer s H vs Q E hr h => ?_)
  · obtain ⟨w0, ns, rfl, hS, hlen, k⟩ := h
    rfl
  · obtain ⟨w0, ns, rfl, hS, hlen, k⟩ := h
    refine ⟨_, (pss_cons (ps_set (i := 1) sc_law.nd rfl (Or.inr rfl) (pe_call (ok__law_stream T) (hr.mono (by omega)) rfl T.m__law_stream T.F__law_stream.kp T.b__law_stream .nil pass0 (pa_cons (pv 0) pa_nil)))
      (pss_cons (ps_set (i := 2) sc_law.nd rfl (Or.inr rfl) (pe_call (ok__law_far T) (hr.mono (by omega)) rfl T.m__law_far T.F__law_far.kp T.b__law_far .nil pass0 (pa_cons (pv 1) pa_nil)))
      (pss_cons (ps_asg (pe_lc (own := [("k", 10)]) (g := gName 10) (tt := tYes) rfl sc_law.nd (pi_range1 rfl T.n_range (pa_cons pe_int pa_nil)) (blkOk_by (own := [("k", 10)]) (N := N_law) (sc := defScope s_law) (by decide +kernel)) (fun _ _ _ _ _ => pg_name (i := 10) sc_law.nd rfl (Or.inl rfl)) (fun _ _ _ _ _ => pts_nil) (fun _ _ _ _ _ => (pe_call (ok__law_point T) (hr.mono (by omega)) rfl T.m__law_point T.F__law_point.kp T.b__law_point .nil pass0 (pa_cons (pv 1) (pa_cons (pv 2) pa_nil))))) (pg_lst (by rfl) (pgs_cons (pg_name (i := 3) sc_law.nd rfl (Or.inl rfl)) (pgs_cons (pg_name (i := 4) sc_law.nd rfl (Or.inl rfl)) (pgs_cons (pg_name (i := 5) sc_law.nd rfl (Or.inl rfl)) (pgs_cons (pg_name (i := 6) sc_law.nd rfl (Or.inl rfl)) pgs_nil))))))
      (C8.pss_cut (ps_if (pt_cmpR op_eq (pe_call (ok__law_next T) (hr.mono (by omega)) rfl T.m__law_next T.F__law_next.kp T.b__law_next .nil pass0 (pa_cons (pv 1) (pa_cons pe_int pa_nil))) pe_int (nomark _))
        (pss_one (ps_set (i := 5) sc_law.nd rfl (Or.inl rfl) (pe_ix (r := rIxL K) ix_list (pe_lst (pa_cons (pv 3) (pa_cons (pv 4) (pa_cons (pe_tup (pa_cons (pe_op op_sub (pe_op op_mul pe_int (pe_ix (r := rIxT K) ix_tup (pv 4) pe_int (fun _ _ => rfl))) (pe_ix (r := rIxT K) ix_tup (pv 3) pe_int (fun _ _ => rfl))) (pa_cons (pe_op op_sub (pe_op op_mul pe_int (pe_ix (r := rIxT K) ix_tup (pv 4) pe_int (fun _ _ => rfl))) (pe_ix (r := rIxT K) ix_tup (pv 3) pe_int (fun _ _ => rfl))) pa_nil))) pa_nil)))) (pe_call (ok__law_next T) (hr.mono (by omega)) rfl T.m__law_next T.F__law_next.kp T.b__law_next .nil pass0 (pa_cons (pv 1) (pa_cons pe_int pa_nil))) (fun _ _ => rfl))))
        pss_nil)
      (C8.pss_cut (ps_if (PW.pt (pw_or (pt_cmpR op_gt (pe_callB call_abs (by rfl) T.n_abs (by decide +kernel) (pa_cons (pe_ix (r := rIxT K) ix_tup (pv 5) pe_int (fun _ _ => rfl)) pa_nil)) pe_int (nomark _)) (pw_or1 (pt_cmpR op_gt (pe_callB call_abs (by rfl) T.n_abs (by decide +kernel) (pa_cons (pe_ix (r := rIxT K) ix_tup (pv 5) pe_int (fun _ _ => rfl)) pa_nil)) pe_int (nomark _)))))
        (pss_one (ps_set (i := 5) sc_law.nd rfl (Or.inl rfl) (pv 3)))
        pss_nil)
      (pss_cons (ps_set (i := 7) sc_law.nd rfl (Or.inl rfl) (pe_call (ok__law_turn T) (hr.mono (by omega)) rfl T.m__law_turn T.F__law_turn.kp T.b__law_turn .nil pass0 (pa_cons (pv 3) (pa_cons (pv 4) (pa_cons (pv 5) pa_nil)))))
      (pss_cons (ps_if (PW.pt (pw_or (pt_not (pt_val (pe_call (ok__law_equal T 4) (hr.mono (by omega)) rfl T.m__law_equal T.F__law_equal.kp T.b__law_equal .nil pass0 (pa_cons (pe_call (ok_turn T) (hr.mono (by omega)) rfl T.m_turn T.F_turn.kp T.b_turn .nil pass0 (pa_cons (pv 3) (pa_cons (pv 4) (pa_cons (pv 5) pa_nil)))) (pa_cons (pv 7) pa_nil))))) (pw_or (pt_cmpR op_ne (pe_call (ok_turn T) (hr.mono (by omega)) rfl T.m_turn T.F_turn.kp T.b_turn .nil pass0 (pa_cons (pv 4) (pa_cons (pv 5) (pa_cons (pv 3) pa_nil)))) (pv 7) (nomark _)) (pw_or1 (pt_cmpR op_ne (pe_call (ok_turn T) (hr.mono (by omega)) rfl T.m_turn T.F_turn.kp T.b_turn .nil pass0 (pa_cons (pv 4) (pa_cons (pv 3) (pa_cons (pv 5) pa_nil)))) (pe_op op_sub pe_int (pv 7)) (nomark _))))))
        (pss_one (ps_ret pe_bl))
        pss_nil)
      (pss_cons (ps_if (pt_cmpR op_ne (pe_call (ok_turn T) (hr.mono (by omega)) rfl T.m_turn T.F_turn.kp T.b_turn .nil pass0 (pa_cons (pe_call (ok__law_quarter T) (hr.mono (by omega)) rfl T.m__law_quarter T.F__law_quarter.kp T.b__law_quarter .nil pass0 (pa_cons (pv 3) pa_nil)) (pa_cons (pe_call (ok__law_quarter T) (hr.mono (by omega)) rfl T.m__law_quarter T.F__law_quarter.kp T.b__law_quarter .nil pass0 (pa_cons (pv 4) pa_nil)) (pa_cons (pe_call (ok__law_quarter T) (hr.mono (by omega)) rfl T.m__law_quarter T.F__law_quarter.kp T.b__law_quarter .nil pass0 (pa_cons (pv 5) pa_nil)) pa_nil)))) (pv 7) (nomark _))
        (pss_one (ps_ret pe_bl))
        pss_nil)
      (pss_cons (ps_if (pt_cmpR op_ne (pe_call (ok_turn T) (hr.mono (by omega)) rfl T.m_turn T.F_turn.kp T.b_turn .nil pass0 (pa_cons (pe_tup (pa_cons (pe_op op_sub pe_int (pe_ix (r := rIxT K) ix_tup (pv 3) pe_int (fun _ _ => rfl))) (pa_cons (pe_ix (r := rIxT K) ix_tup (pv 3) pe_int (fun _ _ => rfl)) pa_nil))) (pa_cons (pe_tup (pa_cons (pe_op op_sub pe_int (pe_ix (r := rIxT K) ix_tup (pv 4) pe_int (fun _ _ => rfl))) (pa_cons (pe_ix (r := rIxT K) ix_tup (pv 4) pe_int (fun _ _ => rfl)) pa_nil))) (pa_cons (pe_tup (pa_cons (pe_op op_sub pe_int (pe_ix (r := rIxT K) ix_tup (pv 5) pe_int (fun _ _ => rfl))) (pa_cons (pe_ix (r := rIxT K) ix_tup (pv 5) pe_int (fun _ _ => rfl)) pa_nil))) pa_nil)))) (pe_op op_sub pe_int (pv 7)) (nomark _))
        (pss_one (ps_ret pe_bl))
        pss_nil)
      (C8.pss_cut (ps_if (pt_cmpR op_lt (pv 2) pe_int (nomark _))
        (pss_cons (ps_set (i := 8) sc_law.nd rfl (Or.inr rfl) (pe_op op_sub (pe_call (ok__law_next T) (hr.mono (by omega)) rfl T.m__law_next T.F__law_next.kp T.b__law_next .nil pass0 (pa_cons (pv 1) (pa_cons pe_int pa_nil))) pe_int))
        (pss_cons (ps_setLc (i := 9) (own := [("p", 11)]) (g := gName 11) (tt := tYes) rfl sc_law.nd rfl rfl (sw_true rfl rfl rfl (by decide +kernel)) (pi_list (pe_lst (pa_cons (pv 3) (pa_cons (pv 4) (pa_cons (pv 5) pa_nil))))) (blkOk_by (own := [("p", 11)]) (N := N_law) (sc := defScope s_law) (by decide +kernel)) (fun _ _ _ _ _ => pg_name (i := 11) sc_law.nd rfl (Or.inl rfl)) (fun _ _ _ _ _ => pts_nil) (fun _ _ _ _ _ => (pe_tup (pa_cons (pe_op op_add (pe_ix (r := rIxT K) ix_tup (pv 11) pe_int (fun _ _ => rfl)) (pv 8)) (pa_cons (pe_op op_sub (pe_ix (r := rIxT K) ix_tup (pv 11) pe_int (fun _ _ => rfl)) (pv 8)) pa_nil)))))
        (pss_one (ps_if (PW.pt (pw_and (pt_val (pe_callB (cr_all rfl) (by rfl) T.n_all (by decide +kernel) (pa_cons (pe_lc (own := [("p", 11)]) (g := gName 11) (tt := tYes) rfl sc_law.nd (pi_list (pv 9)) (blkOk_by (own := [("p", 11)]) (N := N_law) (sc := defScope s_law) (by decide +kernel)) (fun _ _ _ _ _ => pg_name (i := 11) sc_law.nd rfl (Or.inl rfl)) (fun _ _ _ _ _ => pts_nil) (fun _ _ _ _ _ => (pe_and (pe_cmpR op_le (pe_callB call_abs (by rfl) T.n_abs (by decide +kernel) (pa_cons (pe_ix (r := rIxT K) ix_tup (pv 11) pe_int (fun _ _ => rfl)) pa_nil)) pe_int (nomark _)) (pe_one (pe_cmpR op_le (pe_callB call_abs (by rfl) T.n_abs (by decide +kernel) (pa_cons (pe_ix (r := rIxT K) ix_tup (pv 11) pe_int (fun _ _ => rfl)) pa_nil)) pe_int (nomark _)))))) pa_nil))) (pw_and1 (pt_cmpR op_ne (pe_call (ok_turn T) (hr.mono (by omega)) rfl T.m_turn T.F_turn.kp T.b_turn .nil pass0 (pa_cons (pe_ix (r := rIxL K) ix_list (pv 9) pe_int (fun _ _ => rfl)) (pa_cons (pe_ix (r := rIxL K) ix_list (pv 9) pe_int (fun _ _ => rfl)) (pa_cons (pe_ix (r := rIxL K) ix_list (pv 9) pe_int (fun _ _ => rfl)) pa_nil)))) (pv 7) (nomark _)))))
          (pss_one (ps_ret pe_bl))
          pss_nil))))
        pss_nil)
      (pss_one (ps_ret (pe_cmpR op_eq (pe_op op_add (pe_call (ok_turn T) (hr.mono (by omega)) rfl T.m_turn T.F_turn.kp T.b_turn .nil pass0 (pa_cons (pv 3) (pa_cons (pv 4) (pa_cons (pv 5) pa_nil)))) (pe_call (ok_turn T) (hr.mono (by omega)) rfl T.m_turn T.F_turn.kp T.b_turn .nil pass0 (pa_cons (pv 3) (pa_cons (pv 5) (pa_cons (pv 6) pa_nil))))) (pe_op op_add (pe_call (ok_turn T) (hr.mono (by omega)) rfl T.m_turn T.F_turn.kp T.b_turn .nil pass0 (pa_cons (pv 3) (pa_cons (pv 4) (pa_cons (pv 6) pa_nil)))) (pe_call (ok_turn T) (hr.mono (by omega)) rfl T.m_turn T.F_turn.kp T.b_turn .nil pass0 (pa_cons (pv 4) (pa_cons (pv 5) (pa_cons (pv 6) pa_nil))))) (nomark _)))))))))))))), ?_⟩
    refine ⟨_, rfl, _, ns, rfl, hS, fun H1 s b e1 n1 S1 => ?_⟩
    refine ⟨_, rfl, _, _, rfl, S1, fun far H2 hf S2 B2 => ?_⟩
    have hf' := hf.le
    -- four points
    refine ⟨4, rfl, by decide, by decide, fun D hD => lc_range (lo := 0) (n := 4) (fun i H' => ∃ zs : List Zp, zs.length = i ∧ H' D = some (.lst (refs zs)) ∧ Strm H' s b ∧ Pts K H' zs ∧ ∀ z ∈ zs, In far z.2.1 z.2.2) ⟨[], rfl, upd_same, S2.over hD, Pts.nil, by simp⟩ ?_ ?_⟩
    · have n1 := S2.new1 hD
      have n2 := S2.new2 hD
      rintro i H3 hi ⟨zs, hl, hp, S3, hps, hin⟩
      refine ⟨rfl, ?_⟩
      refine ⟨_, rfl, _, rfl, _, _, _, rfl, by omega, by omega, S3, fun a x y H4 ina S4 B4 ha => ?_⟩
      have hp4 := B4 D _ n1 hp
      refine ⟨_, hp4, by rw [List.length_map]; exact line_of (by omega), zs ++ [(a, x, y)], by simp [hl], by rw [upd_same]; simp, S4.at n1 n2, ?_, ?_⟩
      · exact ((hps.but B4 S3).app (Pts.one ha)).at ⟨_, hp4⟩
      · intro z hz
        rcases List.mem_append.mp hz with hz | hz
        · exact hin z hz
        · rw [List.mem_singleton] at hz; rw [hz]; exact ina
    rintro H3 ⟨zs, hl, hp, S3, hps, hin⟩
    obtain ⟨⟨a, ax, ay⟩, ⟨b2, bx, dy⟩, ⟨c, cx, cy⟩, ⟨d, ex, ey⟩, rfl⟩ := four_of hl
    have ha := hps (a, ax, ay) (by simp)
    have hb := hps (b2, bx, dy) (by simp)
    have hc := hps (c, cx, cy) (by simp)
    have hd := hps (d, ex, ey) (by simp)
    have ia := hin (a, ax, ay) (by simp)
    have ib := hin (b2, bx, dy) (by simp)
    have ic := hin (c, cx, cy) (by simp)
    have id' := hin (d, ex, ey) (by simp)
    have oa : On ax ay := ia.on hf'.2
    have ob : On bx dy := ib.on hf'.2
    have oc : On cx cy := ic.on hf'.2
    have od : On ex ey := id'.on hf'.2
    clear hps hin
    refine ⟨_, _, rfl, SqL.of hp, rfl, _, _, rfl, _, _, rfl, _, _, rfl, _, _, rfl, rfl, ?_⟩
    -- c another one
    refine ⟨fun σ' H' => ∃ (c' : Addr) (cx' cy' : Int), σ' = [some (.ref w0), some (.ref s), some (.int far), some (.ref a), some (.ref b2), some (.ref c'), some (.ref d), none, none, none, none, none] ∧ Strm H' s b ∧ SqT K H' a [.int ax, .int ay] ∧ SqT K H' b2 [.int bx, .int dy] ∧ SqT K H' c' [.int cx', .int cy'] ∧ SqT K H' d [.int ex, .int ey], ?_, ?_⟩
    · refine ⟨_, rfl, _, _, _, rfl, by decide, by decide, S3, fun d1 H4 _ _ S4 B4 => ?_⟩
      have ha4 := tButS B4 S3 ha
      have hb4 := tButS B4 S3 hb
      have hc4 := tButS B4 S3 hc
      have hd4 := tButS B4 S3 hd
      refine ⟨rfl, _, rfl, ifD (fun _ => ?_) (fun _ => ⟨_, _, _, rfl, S4, ha4, hb4, hc4, hd4⟩)⟩
      refine ⟨_, rfl, _, rfl, _, rfl, _, _, _, _, rfl, rfl, hb4, at0, _, _, rfl, rfl, .inl ⟨by decide, by decide⟩, _, rfl, _, _, _, _, rfl, rfl, ha4, at0, _, _, rfl, rfl, ?_⟩
      refine ⟨_, rfl, _, _, _, _, rfl, rfl, hb4, at1, _, _, rfl, rfl, .inl ⟨by decide, by decide⟩, _, rfl, _, _, _, _, rfl, rfl, ha4, at1, _, _, rfl, rfl, small rfl, fun p hp => ⟨small rfl, fun q hq => ?_⟩⟩
      refine ⟨_, rfl, _, _, _, rfl, by decide, by decide, (S4.over hp).over hq, fun d2 H5 d0 d3 S5 B5 => ?_⟩
      obtain ⟨v, hv, e⟩ := atThree (a := V.ref a) (b := .ref b2) (c := .ref p) d0 d3
      have ha5 := tButS B5 ((S4.over hp).over hq) (tOver hq (tOver hp ha4))
      have hb5 := tButS B5 ((S4.over hp).over hq) (tOver hq (tOver hp hb4))
      have hd5 := tButS B5 ((S4.over hp).over hq) (tOver hq (tOver hp hd4))
      have hp5 := tButS B5 ((S4.over hp).over hq) (tOver hq (tHere (K := K) (H := H4) (p := p)))
      refine ⟨_, _, _, _, rfl, rfl, SqL.of (rBut B5 hq (S4.over hp)), hv, ?_⟩
      rcases e with rfl | rfl | rfl
      · exact ⟨_, _, _, rfl, S5, ha5, hb5, ha5, hd5⟩
      · exact ⟨_, _, _, rfl, S5, ha5, hb5, hb5, hd5⟩
      · exact ⟨_, _, _, rfl, S5, ha5, hb5, hp5, hd5⟩
    clear ha hb hc hd hp S3 S2 S1 B2 oc ic
    rintro σ' H4 ⟨c, cx, cy, rfl, S4, ha, hb, hc, hd⟩
    refine ⟨fun σ' H' => ∃ (c' : Addr) (cx' cy' : Int), σ' = [some (.ref w0), some (.ref s), some (.int far), some (.ref a), some (.ref b2), some (.ref c'), some (.ref d), none, none, none, none, none] ∧ Strm H' s b ∧ SqT K H' a [.int ax, .int ay] ∧ SqT K H' b2 [.int bx, .int dy] ∧ SqT K H' c' [.int cx', .int cy'] ∧ SqT K H' d [.int ex, .int ey] ∧ On cx' cy', ?_, ?_⟩
    · refine ⟨_, rfl, _, _, _, _, rfl, rfl, hc, at0, _, rfl, _, _, rfl, rfl, _, rfl, ifD (fun _ => ?_) (fun e0 => ?_)⟩
      · exact ⟨_, rfl, _, _, _, rfl, S4, ha, hb, ha, hd, oa⟩
      · refine ⟨_, rfl, _, _, _, _, rfl, rfl, hc, at1, _, rfl, _, _, rfl, rfl, _, rfl, ifD (fun _ => ?_) (fun e1 => ?_)⟩
        · exact ⟨_, rfl, _, _, _, rfl, S4, ha, hb, ha, hd, oa⟩
        · refine ⟨_, _, _, rfl, S4, ha, hb, hc, hd, ?_⟩
          unfold On
          split at e0 <;> split at e1 <;> omega
    clear ha hb hc hd S4
    rintro σ' H5 ⟨c, cx, cy, rfl, S5, ha, hb, hc, hd, oc⟩
    -- due
    refine ⟨_, rfl, _, rfl, _, rfl, _, _, _, _, _, _, _, _, _, rfl, ha, hb, hc, ⟨oa.sx, ob.sx, oa.sy, ob.sy⟩, ?_⟩
    -- the first test
    refine ⟨_, rfl, _, rfl, _, rfl, _, _, _, _, _, _, _, _, _, rfl, ha, hb, hc, oa, ob, oc, _, rfl, _, _, rfl, .int 3 _, fun H6 e6 => ?_⟩
    have ha := tSame e6 ha
    have hb := tSame e6 hb
    have hc := tSame e6 hc
    have hd := tSame e6 hd
    have S6 := S5.same e6
    refine ⟨_, rfl, ?_⟩
    refine ⟨_, rfl, _, rfl, _, rfl, _, _, _, _, _, _, _, _, _, rfl, hb, hc, ha, ob, oc, oa, _, rfl, rfl, _, rfl, ifND (fun e => absurd (congrArg V.int (turn_cyc ..)) e) (fun _ => ?_)⟩
    refine ⟨_, rfl, _, rfl, _, rfl, _, _, _, _, _, _, _, _, _, rfl, hb, ha, hc, ob, oa, oc, _, rfl, _, _, rfl, rfl, rfl, _, rfl, ifND (fun e => absurd (congrArg V.int (turn_swap ..)) e) (fun _ => ?_)⟩
    -- turned by a quarter
    refine ⟨_, rfl, _, _, _, rfl, ha, fun p1 q1 => ?_⟩
    refine ⟨_, rfl, _, _, _, rfl, tOver q1 hb, fun p2 q2 => ?_⟩
    refine ⟨_, rfl, _, _, _, rfl, tOver q2 (tOver q1 hc), fun p3 q3 => ?_⟩
    refine ⟨_, _, _, _, _, _, _, _, _, rfl, tOver q3 (tOver q2 tHere), tOver q3 tHere, tHere, oa.quarter, ob.quarter, oc.quarter, _, rfl, rfl, _, rfl, ifND (fun e => absurd (congrArg V.int (turn_quarter ..)) e) (fun _ => ?_)⟩
    have ha := tOver (o := HO.tup [.int (0 - cy), .int cx]) q3 (tOver (o := HO.tup [.int (0 - dy), .int bx]) q2 (tOver (o := HO.tup [.int (0 - ay), .int ax]) q1 ha))
    have hb := tOver (o := HO.tup [.int (0 - cy), .int cx]) q3 (tOver (o := HO.tup [.int (0 - dy), .int bx]) q2 (tOver (o := HO.tup [.int (0 - ay), .int ax]) q1 hb))
    have hc := tOver (o := HO.tup [.int (0 - cy), .int cx]) q3 (tOver (o := HO.tup [.int (0 - dy), .int bx]) q2 (tOver (o := HO.tup [.int (0 - ay), .int ax]) q1 hc))
    have hd := tOver (o := HO.tup [.int (0 - cy), .int cx]) q3 (tOver (o := HO.tup [.int (0 - dy), .int bx]) q2 (tOver (o := HO.tup [.int (0 - ay), .int ax]) q1 hd))
    have S7 := ((S6.over (o := HO.tup [.int (0 - ay), .int ax]) q1).over (o := HO.tup [.int (0 - dy), .int bx]) q2).over (o := HO.tup [.int (0 - cy), .int cx]) q3
    generalize (upd (upd (upd H6 p1 (HO.tup [.int (0 - ay), .int ax])) p2 (HO.tup [.int (0 - dy), .int bx])) p3 (HO.tup [.int (0 - cy), .int cx])) = H7 at ha hb hc hd S7 ⊢
    -- mirrored
    refine ⟨_, rfl, _, _, _, _, rfl, rfl, ha, at0, _, _, rfl, rfl, _, rfl, _, _, _, _, rfl, rfl, ha, at1, small rfl, fun p1 q1 => ?_⟩
    have hb1 := tOver (o := HO.tup [.int (0 - ax), .int ay]) q1 hb
    refine ⟨_, rfl, _, _, _, _, rfl, rfl, hb1, at0, _, _, rfl, rfl, _, rfl, _, _, _, _, rfl, rfl, hb1, at1, small rfl, fun p2 q2 => ?_⟩
    have hc1 := tOver (o := HO.tup [.int (0 - bx), .int dy]) q2 (tOver (o := HO.tup [.int (0 - ax), .int ay]) q1 hc)
    refine ⟨_, rfl, _, _, _, _, rfl, rfl, hc1, at0, _, _, rfl, rfl, _, rfl, _, _, _, _, rfl, rfl, hc1, at1, small rfl, fun p3 q3 => ?_⟩
    refine ⟨_, _, _, _, _, _, _, _, _, rfl, tOver q3 (tOver q2 tHere), tOver q3 tHere, tHere, oa.mirror, ob.mirror, oc.mirror, _, rfl, _, _, rfl, rfl, rfl, _, rfl, ifND (fun e => absurd (congrArg V.int (turn_mirror ..)) e) (fun _ => ?_)⟩
    have ha := tOver (o := HO.tup [.int (0 - cx), .int cy]) q3 (tOver (o := HO.tup [.int (0 - bx), .int dy]) q2 (tOver (o := HO.tup [.int (0 - ax), .int ay]) q1 ha))
    have hb := tOver (o := HO.tup [.int (0 - cx), .int cy]) q3 (tOver (o := HO.tup [.int (0 - bx), .int dy]) q2 (tOver (o := HO.tup [.int (0 - ax), .int ay]) q1 hb))
    have hc := tOver (o := HO.tup [.int (0 - cx), .int cy]) q3 (tOver (o := HO.tup [.int (0 - bx), .int dy]) q2 (tOver (o := HO.tup [.int (0 - ax), .int ay]) q1 hc))
    have hd := tOver (o := HO.tup [.int (0 - cx), .int cy]) q3 (tOver (o := HO.tup [.int (0 - bx), .int dy]) q2 (tOver (o := HO.tup [.int (0 - ax), .int ay]) q1 hd))
    have S8 := ((S7.over (o := HO.tup [.int (0 - ax), .int ay]) q1).over (o := HO.tup [.int (0 - bx), .int dy]) q2).over (o := HO.tup [.int (0 - cx), .int cy]) q3
    generalize (upd (upd (upd H7 p1 (HO.tup [.int (0 - ax), .int ay])) p2 (HO.tup [.int (0 - bx), .int dy])) p3 (HO.tup [.int (0 - cx), .int cy])) = H8 at ha hb hc hd S8 ⊢
    clear S5 S6 S7 q1 q2 q3 hb1 hc1
    -- moved
    refine ⟨fun σ' H' => ∃ x8 x9 : Option V, σ' = [some (.ref w0), some (.ref s), some (.int far), some (.ref a), some (.ref b2), some (.ref c), some (.ref d), some (.int (turnI ax ay bx dy cx cy)), x8, x9, none, none] ∧ SqT K H' a [.int ax, .int ay] ∧ SqT K H' b2 [.int bx, .int dy] ∧ SqT K H' c [.int cx, .int cy] ∧ SqT K H' d [.int ex, .int ey], ?_, ?_⟩
    rotate_left
    · rintro σ' H9 ⟨x8, x9, rfl, ha, hb, hc, hd⟩
      refine ⟨_, rfl, _, rfl, _, rfl, _, _, _, _, _, _, _, _, _, rfl, ha, hb, hc, oa, ob, oc, _, rfl, _, rfl, _, rfl, _, _, _, _, _, _, _, _, _, rfl, ha, hc, hd, oa, oc, od, _, _, rfl, rfl, ?_⟩
      refine ⟨_, rfl, _, rfl, _, rfl, _, _, _, _, _, _, _, _, _, rfl, ha, hb, hd, oa, ob, od, _, rfl, _, rfl, _, rfl, _, _, _, _, _, _, _, _, _, rfl, hb, hc, hd, ob, oc, od, _, _, rfl, rfl, rfl, ?_⟩
      rw [decide_eq_true (congrArg V.int (turn_four ..))]
      exact k _
    refine ⟨_, rfl, _, _, rfl, rfl, _, rfl, ifD (fun hlt => ?_) (fun _ => ⟨_, _, rfl, ha, hb, hc, hd⟩)⟩
    refine ⟨_, rfl, _, _, _, rfl, by decide, by decide, S8, fun d1 H9 d10 d11 S9 B9 => ?_⟩
    replace ha := tButS B9 S8 ha
    replace hb := tButS B9 S8 hb
    replace hc := tButS B9 S8 hc
    replace hd := tButS B9 S8 hd
    refine ⟨_, _, rfl, rfl, ?_⟩
    refine ⟨_, rfl, _, rfl, _, rfl, small rfl, fun q hq => ⟨_, rfl, ⟨_, SqL.of upd_same⟩, fun D hD => ?_⟩⟩
    have hDq : q ≠ D := ne_of_none upd_same hD
    refine lc_list (K := K) (a := q) (xs := [.ref a, .ref b2, .ref c]) (fun i H' => SqT K H' a [.int ax, .int ay] ∧ SqT K H' b2 [.int bx, .int dy] ∧ SqT K H' c [.int cx, .int cy] ∧ SqT K H' d [.int ex, .int ey] ∧ H' q = some (.lst [.ref a, .ref b2, .ref c]) ∧
      ∃ zs : List Zp, zs.map (·.2) = ([(ax, ay), (bx, dy), (cx, cy)].take i).map (fun p : Int × Int => (p.1 + (d1 - 900), p.2 - (d1 - 900))) ∧ H' D = some (.lst (refs zs)) ∧ Pts K H' zs)
      ⟨tOver hD (tOver hq ha), tOver hD (tOver hq hb), tOver hD (tOver hq hc), tOver hD (tOver hq hd), by rw [upd_ne hDq, upd_same], [], rfl, upd_same, Pts.nil⟩ (fun i H' _ h => SqL.of h.2.2.2.2.1) ?_ ?_
    · rintro i x H' hx ⟨ha, hb, hc, hd, hq', zs, hz, hD', hps⟩
      have hi : i < 3 := (List.getElem?_eq_some_iff.mp hx).1
      have hlz : zs.length = i := by
        have := congrArg List.length hz
        simp at this
        omega
      -- the point at hand
      obtain ⟨u, ux, uy, rfl, hu, ht⟩ : ∃ (u : Addr) (ux uy : Int), x = .ref u ∧ SqT K H' u [.int ux, .int uy] ∧ [(ax, ay), (bx, dy), (cx, cy)][i]? = some (ux, uy) := by
        rcases (show i = 0 ∨ i = 1 ∨ i = 2 by omega) with rfl | rfl | rfl
        · cases hx; exact ⟨_, _, _, rfl, ha, rfl⟩
        · cases hx; exact ⟨_, _, _, rfl, hb, rfl⟩
        · cases hx; exact ⟨_, _, _, rfl, hc, rfl⟩
      refine ⟨rfl, ?_⟩
      refine ⟨_, rfl, _, _, _, _, rfl, rfl, hu, at0, _, rfl, _, _, rfl, rfl, ?_⟩
      refine ⟨_, rfl, _, _, _, _, rfl, rfl, hu, at1, _, rfl, _, _, rfl, rfl, small rfl, fun p hp => ?_⟩
      have nDp : D ≠ p := ne_of_none hD' hp
      refine ⟨_, by rw [upd_ne nDp]; exact hD', by rw [List.length_map]; exact line_of (by omega), ?_⟩
      have hl : ∃ ys, (upd H' p (HO.tup [.int (ux + (d1 - 900)), .int (uy - (d1 - 900))])) D = some (.lst ys) := ⟨_, by rw [upd_ne nDp]; exact hD'⟩
      refine ⟨tAt hl (tOver hp ha), tAt hl (tOver hp hb), tAt hl (tOver hp hc), tAt hl (tOver hp hd), ?_, zs ++ [(p, ux + (d1 - 900), uy - (d1 - 900))], ?_, by rw [upd_same]; simp, ?_⟩
      · rw [upd_ne hDq, upd_ne (ne_of_none hq' hp)]; exact hq'
      · rw [List.map_append, hz, List.take_add_one, ht, List.map_append]; rfl
      · exact ((hps.over hp).app (Pts.one tHere)).at hl
    rintro H' ⟨ha, hb, hc, hd, hq', zs, hz, hD', hps⟩
    obtain ⟨⟨m1, x1, y1⟩, ⟨m2, x2, y2⟩, ⟨m3, x3, y3⟩, rfl⟩ := three_of (xs := zs) (by have := congrArg List.length hz; simpa using this)
    have q1 : (x1, y1) = (ax + (d1 - 900), ay - (d1 - 900)) := (List.cons.inj hz).1
    have q2 : (x2, y2) = (bx + (d1 - 900), dy - (d1 - 900)) := (List.cons.inj (List.cons.inj hz).2).1
    have q3 : (x3, y3) = (cx + (d1 - 900), cy - (d1 - 900)) := (List.cons.inj (List.cons.inj (List.cons.inj hz).2).2).1
    cases q1
    cases q2
    cases q3
    -- all([.. for p in moved])
    refine ⟨_, rfl, _, rfl, ⟨_, SqL.of hD'⟩, fun G hG => ?_⟩
    refine lc_list (K := K) (a := D) (xs := refs [(m1, ax + (d1 - 900), ay - (d1 - 900)), (m2, bx + (d1 - 900), dy - (d1 - 900)), (m3, cx + (d1 - 900), cy - (d1 - 900))])
      (fun i H2 => Same H' H2 ∧ ∃ bs : List Bool, bs.length = i ∧ H2 G = some (.lst (bs.map V.bl)) ∧ ∀ (j : Nat) (z : Zp), bs[j]? = some true → [(m1, ax + (d1 - 900), ay - (d1 - 900)), (m2, bx + (d1 - 900), dy - (d1 - 900)), (m3, cx + (d1 - 900), cy - (d1 - 900))][j]? = some z → On z.2.1 z.2.2)
      ⟨same_new hG, [], rfl, upd_same, fun j z e => by simp at e⟩ (fun i H2 _ h => h.1.seq (SqL.of hD')) ?_ ?_
    · rintro i x H2 hx ⟨e2, bs, hl, hG2, hbs⟩
      have hi : i < 3 := (List.getElem?_eq_some_iff.mp hx).1
      rw [List.getElem?_map] at hx
      obtain ⟨z, hz1, rfl⟩ := Option.map_eq_some_iff.mp hx
      have hzz := tSame e2 (hps.get hz1)
      have fin : ∀ v : Bool, (v = true → On z.2.1 z.2.2) → ∃ acc, H2 G = some (.lst acc) ∧ acc.length < sizeLine ∧ (Same H' (upd H2 G (.lst (acc ++ [.bl v]))) ∧ ∃ bs : List Bool, bs.length = i + 1 ∧ (upd H2 G (.lst (acc ++ [.bl v]))) G = some (.lst (bs.map V.bl)) ∧
          ∀ (j : Nat) (z : Zp), bs[j]? = some true → [(m1, ax + (d1 - 900), ay - (d1 - 900)), (m2, bx + (d1 - 900), dy - (d1 - 900)), (m3, cx + (d1 - 900), cy - (d1 - 900))][j]? = some z → On z.2.1 z.2.2) := by
        intro v hv
        refine ⟨_, hG2, by rw [List.length_map]; exact line_of (by omega), fun p o e => ?_, bs ++ [v], by simp [hl], by rw [upd_same]; simp, fun j z' hj hj2 => ?_⟩
        · rw [upd_ne (ne_of_none e hG)]; exact e2 _ _ e
        · by_cases hji : j < i
          · rw [List.getElem?_append_left (by omega)] at hj
            exact hbs j z' hj hj2
          · have : j = i := by
              have := (List.getElem?_eq_some_iff.mp hj).1
              simp at this
              omega
            subst this
            rw [List.getElem?_append_right (by omega), hl, Nat.sub_self] at hj
            have e := hz1.symm.trans hj2
            cases e
            exact hv (Option.some.inj hj)
      refine ⟨rfl, ?_⟩
      refine ⟨_, rfl, _, _, _, _, rfl, rfl, hzz, at0, _, rfl, _, _, rfl, rfl, _, rfl, ?_⟩
      refine ifD (fun g1 => ?_) (fun _ => fin false (fun e => by cases e))
      refine ⟨_, rfl, _, _, _, _, rfl, rfl, hzz, at1, _, rfl, _, _, rfl, rfl, fin _ (fun g2 => ?_)⟩
      have g2 := of_decide_eq_true g2
      unfold On
      split at g1 <;> split at g2 <;> omega
    rintro H2 ⟨e2, bs, hl, hG2, hbs⟩
    refine ⟨_, _, rfl, SqL.of hG2, _, rfl, ?_⟩
    have hl : bs.length = 3 := hl
    replace ha := tSame e2 ha
    replace hb := tSame e2 hb
    replace hc := tSame e2 hc
    replace hd := tSame e2 hd
    replace hps := hps.same e2
    replace hD' := e2 _ _ hD'
    refine ifB (fun hall => ?_) (fun _ => ?_)
    · have all : ∀ j, j < 3 → bs[j]? = some true := fun j hj => by
        have hj' : j < bs.length := by omega
        rw [List.getElem?_eq_getElem hj']
        have := List.all_eq_true.mp hall _ (List.getElem_mem hj')
        exact congrArg some this
      have o1 := hbs 0 _ (all 0 (by decide)) rfl
      have o2 := hbs 1 _ (all 1 (by decide)) rfl
      have o3 := hbs 2 _ (all 2 (by decide)) rfl
      refine ⟨_, rfl, _, _, _, _, rfl, rfl, SqL.of hD', at0, _, rfl, _, _, _, _, rfl, rfl, SqL.of hD', at1, _, rfl, _, _, _, _, rfl, rfl, SqL.of hD', at2, ?_⟩
      refine ⟨_, _, _, _, _, _, _, _, _, rfl, hps _ (by simp), hps _ (by simp), hps _ (by simp), o1, o2, o3, _, rfl, rfl, _, rfl, ifND (fun e => absurd (congrArg V.int (turn_moved ..)) e) (fun _ => ?_)⟩
      exact ⟨_, _, rfl, ha, hb, hc, hd⟩
    · exact ⟨_, _, rfl, ha, hb, hc, hd⟩

end
theorem all_mk {l : PySem.W.OpenLaw} {w : World} {K : PySem.W.Frag} {h : Heap} {mg : Str → Option Value} {fa : Addr} (X : K.In h) (G : h.Ns mainGlobals mg) (hfa : mg "law" = some (.ref fa))
    {od_is_whole an_is_whole : Option Addr} {sl_is_whole : Array (Option Value)} {oc_is_whole kV_is_whole dc_is_whole pm_is_whole cd_is_whole ct_is_whole : Value} {f_is_whole : Addr}
    (a_is_whole : PySem.W.nsIn K mainGlobals "is_whole" = some (some (.ref f_is_whole)))
    (l_is_whole : K.lookup f_is_whole = some ⟨oc_is_whole, od_is_whole, .func (PySem.W.fnOf "is_whole" "is_whole" (defArgs s_is_whole) (defBody s_is_whole) (defScope s_is_whole) .none kV_is_whole dc_is_whole pm_is_whole an_is_whole cd_is_whole ct_is_whole), sl_is_whole⟩)
    (c_is_whole : PySem.W.codeIn K cd_is_whole "is_whole" = true) (k_is_whole : PySem.W.keepIn K (.ref f_is_whole) = true)
    {od_is_pair an_is_pair : Option Addr} {sl_is_pair : Array (Option Value)} {oc_is_pair kV_is_pair dc_is_pair pm_is_pair cd_is_pair ct_is_pair : Value} {f_is_pair : Addr}
    (a_is_pair : PySem.W.nsIn K mainGlobals "is_pair" = some (some (.ref f_is_pair)))
    (l_is_pair : K.lookup f_is_pair = some ⟨oc_is_pair, od_is_pair, .func (PySem.W.fnOf "is_pair" "is_pair" (defArgs s_is_pair) (defBody s_is_pair) (defScope s_is_pair) .none kV_is_pair dc_is_pair pm_is_pair an_is_pair cd_is_pair ct_is_pair), sl_is_pair⟩)
    (c_is_pair : PySem.W.codeIn K cd_is_pair "is_pair" = true) (k_is_pair : PySem.W.keepIn K (.ref f_is_pair) = true)
    {od_need an_need : Option Addr} {sl_need : Array (Option Value)} {oc_need kV_need dc_need pm_need cd_need ct_need : Value} {f_need : Addr}
    (a_need : PySem.W.nsIn K mainGlobals "need" = some (some (.ref f_need)))
    (l_need : K.lookup f_need = some ⟨oc_need, od_need, .func (PySem.W.fnOf "need" "need" (defArgs s_need) (defBody s_need) (defScope s_need) .none kV_need dc_need pm_need an_need cd_need ct_need), sl_need⟩)
    (c_need : PySem.W.codeIn K cd_need "need" = true) (k_need : PySem.W.keepIn K (.ref f_need) = true)
    {od_is_coordinate an_is_coordinate : Option Addr} {sl_is_coordinate : Array (Option Value)} {oc_is_coordinate kV_is_coordinate dc_is_coordinate pm_is_coordinate cd_is_coordinate ct_is_coordinate : Value} {f_is_coordinate : Addr}
    (a_is_coordinate : PySem.W.nsIn K mainGlobals "is_coordinate" = some (some (.ref f_is_coordinate)))
    (l_is_coordinate : K.lookup f_is_coordinate = some ⟨oc_is_coordinate, od_is_coordinate, .func (PySem.W.fnOf "is_coordinate" "is_coordinate" (defArgs s_is_coordinate) (defBody s_is_coordinate) (defScope s_is_coordinate) .none kV_is_coordinate dc_is_coordinate pm_is_coordinate an_is_coordinate cd_is_coordinate ct_is_coordinate), sl_is_coordinate⟩)
    (c_is_coordinate : PySem.W.codeIn K cd_is_coordinate "is_coordinate" = true) (k_is_coordinate : PySem.W.keepIn K (.ref f_is_coordinate) = true)
    {od_is_point an_is_point : Option Addr} {sl_is_point : Array (Option Value)} {oc_is_point kV_is_point dc_is_point pm_is_point cd_is_point ct_is_point : Value} {f_is_point : Addr}
    (a_is_point : PySem.W.nsIn K mainGlobals "is_point" = some (some (.ref f_is_point)))
    (l_is_point : K.lookup f_is_point = some ⟨oc_is_point, od_is_point, .func (PySem.W.fnOf "is_point" "is_point" (defArgs s_is_point) (defBody s_is_point) (defScope s_is_point) .none kV_is_point dc_is_point pm_is_point an_is_point cd_is_point ct_is_point), sl_is_point⟩)
    (c_is_point : PySem.W.codeIn K cd_is_point "is_point" = true) (k_is_point : PySem.W.keepIn K (.ref f_is_point) = true)
    {od_turn_of an_turn_of : Option Addr} {sl_turn_of : Array (Option Value)} {oc_turn_of kV_turn_of dc_turn_of pm_turn_of cd_turn_of ct_turn_of : Value} {f_turn_of : Addr}
    (a_turn_of : PySem.W.nsIn K mainGlobals "turn_of" = some (some (.ref f_turn_of)))
    (l_turn_of : K.lookup f_turn_of = some ⟨oc_turn_of, od_turn_of, .func (PySem.W.fnOf "turn_of" "turn_of" (defArgs s_turn_of) (defBody s_turn_of) (defScope s_turn_of) .none kV_turn_of dc_turn_of pm_turn_of an_turn_of cd_turn_of ct_turn_of), sl_turn_of⟩)
    (c_turn_of : PySem.W.codeIn K cd_turn_of "turn_of" = true) (k_turn_of : PySem.W.keepIn K (.ref f_turn_of) = true)
    {od_turn an_turn : Option Addr} {sl_turn : Array (Option Value)} {oc_turn kV_turn dc_turn pm_turn cd_turn ct_turn : Value} {f_turn : Addr}
    (a_turn : PySem.W.nsIn K mainGlobals "turn" = some (some (.ref f_turn)))
    (l_turn : K.lookup f_turn = some ⟨oc_turn, od_turn, .func (PySem.W.fnOf "turn" "turn" (defArgs s_turn) (defBody s_turn) (defScope s_turn) .none kV_turn dc_turn pm_turn an_turn cd_turn ct_turn), sl_turn⟩)
    (c_turn : PySem.W.codeIn K cd_turn "turn" = true) (k_turn : PySem.W.keepIn K (.ref f_turn) = true)
    {od__law_stream an__law_stream : Option Addr} {sl__law_stream : Array (Option Value)} {oc__law_stream kV__law_stream dc__law_stream pm__law_stream cd__law_stream ct__law_stream : Value} {f__law_stream : Addr}
    (a__law_stream : PySem.W.nsIn K mainGlobals "_law_stream" = some (some (.ref f__law_stream)))
    (l__law_stream : K.lookup f__law_stream = some ⟨oc__law_stream, od__law_stream, .func (PySem.W.fnOf "_law_stream" "_law_stream" (defArgs s__law_stream) (defBody s__law_stream) (defScope s__law_stream) .none kV__law_stream dc__law_stream pm__law_stream an__law_stream cd__law_stream ct__law_stream), sl__law_stream⟩)
    (c__law_stream : PySem.W.codeIn K cd__law_stream "_law_stream" = true) (k__law_stream : PySem.W.keepIn K (.ref f__law_stream) = true)
    {od__law_next an__law_next : Option Addr} {sl__law_next : Array (Option Value)} {oc__law_next kV__law_next dc__law_next pm__law_next cd__law_next ct__law_next : Value} {f__law_next : Addr}
    (a__law_next : PySem.W.nsIn K mainGlobals "_law_next" = some (some (.ref f__law_next)))
    (l__law_next : K.lookup f__law_next = some ⟨oc__law_next, od__law_next, .func (PySem.W.fnOf "_law_next" "_law_next" (defArgs s__law_next) (defBody s__law_next) (defScope s__law_next) .none kV__law_next dc__law_next pm__law_next an__law_next cd__law_next ct__law_next), sl__law_next⟩)
    (c__law_next : PySem.W.codeIn K cd__law_next "_law_next" = true) (k__law_next : PySem.W.keepIn K (.ref f__law_next) = true)
    {od__law_is_integer an__law_is_integer : Option Addr} {sl__law_is_integer : Array (Option Value)} {oc__law_is_integer kV__law_is_integer dc__law_is_integer pm__law_is_integer cd__law_is_integer ct__law_is_integer : Value} {f__law_is_integer : Addr}
    (a__law_is_integer : PySem.W.nsIn K mainGlobals "_law_is_integer" = some (some (.ref f__law_is_integer)))
    (l__law_is_integer : K.lookup f__law_is_integer = some ⟨oc__law_is_integer, od__law_is_integer, .func (PySem.W.fnOf "_law_is_integer" "_law_is_integer" (defArgs s__law_is_integer) (defBody s__law_is_integer) (defScope s__law_is_integer) .none kV__law_is_integer dc__law_is_integer pm__law_is_integer an__law_is_integer cd__law_is_integer ct__law_is_integer), sl__law_is_integer⟩)
    (c__law_is_integer : PySem.W.codeIn K cd__law_is_integer "_law_is_integer" = true) (k__law_is_integer : PySem.W.keepIn K (.ref f__law_is_integer) = true)
    {od__law_equal an__law_equal : Option Addr} {sl__law_equal : Array (Option Value)} {oc__law_equal kV__law_equal dc__law_equal pm__law_equal cd__law_equal ct__law_equal : Value} {f__law_equal : Addr}
    (a__law_equal : PySem.W.nsIn K mainGlobals "_law_equal" = some (some (.ref f__law_equal)))
    (l__law_equal : K.lookup f__law_equal = some ⟨oc__law_equal, od__law_equal, .func (PySem.W.fnOf "_law_equal" "_law_equal" (defArgs s__law_equal) (defBody s__law_equal) (defScope s__law_equal) .none kV__law_equal dc__law_equal pm__law_equal an__law_equal cd__law_equal ct__law_equal), sl__law_equal⟩)
    (c__law_equal : PySem.W.codeIn K cd__law_equal "_law_equal" = true) (k__law_equal : PySem.W.keepIn K (.ref f__law_equal) = true)
    {od__law_turn an__law_turn : Option Addr} {sl__law_turn : Array (Option Value)} {oc__law_turn kV__law_turn dc__law_turn pm__law_turn cd__law_turn ct__law_turn : Value} {f__law_turn : Addr}
    (a__law_turn : PySem.W.nsIn K mainGlobals "_law_turn" = some (some (.ref f__law_turn)))
    (l__law_turn : K.lookup f__law_turn = some ⟨oc__law_turn, od__law_turn, .func (PySem.W.fnOf "_law_turn" "_law_turn" (defArgs s__law_turn) (defBody s__law_turn) (defScope s__law_turn) .none kV__law_turn dc__law_turn pm__law_turn an__law_turn cd__law_turn ct__law_turn), sl__law_turn⟩)
    (c__law_turn : PySem.W.codeIn K cd__law_turn "_law_turn" = true) (k__law_turn : PySem.W.keepIn K (.ref f__law_turn) = true)
    {od__law_point an__law_point : Option Addr} {sl__law_point : Array (Option Value)} {oc__law_point kV__law_point dc__law_point pm__law_point cd__law_point ct__law_point : Value} {f__law_point : Addr}
    (a__law_point : PySem.W.nsIn K mainGlobals "_law_point" = some (some (.ref f__law_point)))
    (l__law_point : K.lookup f__law_point = some ⟨oc__law_point, od__law_point, .func (PySem.W.fnOf "_law_point" "_law_point" (defArgs s__law_point) (defBody s__law_point) (defScope s__law_point) .none kV__law_point dc__law_point pm__law_point an__law_point cd__law_point ct__law_point), sl__law_point⟩)
    (c__law_point : PySem.W.codeIn K cd__law_point "_law_point" = true) (k__law_point : PySem.W.keepIn K (.ref f__law_point) = true)
    {od__law_far an__law_far : Option Addr} {sl__law_far : Array (Option Value)} {oc__law_far kV__law_far dc__law_far pm__law_far cd__law_far ct__law_far : Value} {f__law_far : Addr}
    (a__law_far : PySem.W.nsIn K mainGlobals "_law_far" = some (some (.ref f__law_far)))
    (l__law_far : K.lookup f__law_far = some ⟨oc__law_far, od__law_far, .func (PySem.W.fnOf "_law_far" "_law_far" (defArgs s__law_far) (defBody s__law_far) (defScope s__law_far) .none kV__law_far dc__law_far pm__law_far an__law_far cd__law_far ct__law_far), sl__law_far⟩)
    (c__law_far : PySem.W.codeIn K cd__law_far "_law_far" = true) (k__law_far : PySem.W.keepIn K (.ref f__law_far) = true)
    {od__law_quarter an__law_quarter : Option Addr} {sl__law_quarter : Array (Option Value)} {oc__law_quarter kV__law_quarter dc__law_quarter pm__law_quarter cd__law_quarter ct__law_quarter : Value} {f__law_quarter : Addr}
    (a__law_quarter : PySem.W.nsIn K mainGlobals "_law_quarter" = some (some (.ref f__law_quarter)))
    (l__law_quarter : K.lookup f__law_quarter = some ⟨oc__law_quarter, od__law_quarter, .func (PySem.W.fnOf "_law_quarter" "_law_quarter" (defArgs s__law_quarter) (defBody s__law_quarter) (defScope s__law_quarter) .none kV__law_quarter dc__law_quarter pm__law_quarter an__law_quarter cd__law_quarter ct__law_quarter), sl__law_quarter⟩)
    (c__law_quarter : PySem.W.codeIn K cd__law_quarter "_law_quarter" = true) (k__law_quarter : PySem.W.keepIn K (.ref f__law_quarter) = true)
    {od_law an_law : Option Addr} {sl_law : Array (Option Value)} {oc_law kV_law dc_law pm_law cd_law ct_law : Value} {f_law : Addr}
    (a_law : PySem.W.nsIn K mainGlobals "law" = some (some (.ref f_law)))
    (l_law : K.lookup f_law = some ⟨oc_law, od_law, .func (PySem.W.fnOf "law" "law" (defArgs s_law) (defBody s_law) (defScope s_law) .none kV_law dc_law pm_law an_law cd_law ct_law), sl_law⟩)
    (c_law : PySem.W.codeIn K cd_law "law" = true) (k_law : PySem.W.keepIn K (.ref f_law) = true)
    (z_abs : PySem.W.nsIn K mainGlobals "abs" = some none)
    (z_all : PySem.W.nsIn K mainGlobals "all" = some none)
    (z_bool : PySem.W.nsIn K mainGlobals "bool" = some none)
    (z_int : PySem.W.nsIn K mainGlobals "int" = some none)
    (z_isinstance : PySem.W.nsIn K mainGlobals "isinstance" = some none)
    (z_len : PySem.W.nsIn K mainGlobals "len" = some none)
    (z_list : PySem.W.nsIn K mainGlobals "list" = some none)
    (z_range : PySem.W.nsIn K mainGlobals "range" = some none)
    (z_str : PySem.W.nsIn K mainGlobals "str" = some none)
    (z_tuple : PySem.W.nsIn K mainGlobals "tuple" = some none)
    {t_HIGHEST : Tok} (v_HIGHEST : PySem.W.nsIn K mainGlobals "HIGHEST" = some (some (.int (1000) t_HIGHEST)))
    {t_LOWEST : Tok} (v_LOWEST : PySem.W.nsIn K mainGlobals "LOWEST" = some (some (.int (-1000) t_LOWEST)))
    : ∃ fd : FuncData, (∀ (s : Shared) (v : Value), BindsTo s fd ⟨[v], []⟩ [("script", v)]) ∧ ∀ base : Heap, K.In base → base.Ns mainGlobals mg → FnOk l.prog w K mg base CX0 6 fa fd ["script"] (spLaw K) := by
  have e := hfa.symm.trans (PySem.W.mg_of X G a_law)
  cases e
  let T : Txt K mg := {
    a_is_whole := f_is_whole, d_is_whole := _, F_is_whole := fun_mk (st := s_is_whole) l_is_whole c_is_whole k_is_whole, m_is_whole := PySem.W.mg_of X G a_is_whole,
    b_is_whole := (fun_mk (st := s_is_whole) l_is_whole c_is_whole k_is_whole).binds (ps := ["value"]) fun _ _ _ _ _ _ us hl => match us, hl with | [_], _ => rfl,
    a_is_pair := f_is_pair, d_is_pair := _, F_is_pair := fun_mk (st := s_is_pair) l_is_pair c_is_pair k_is_pair, m_is_pair := PySem.W.mg_of X G a_is_pair,
    b_is_pair := (fun_mk (st := s_is_pair) l_is_pair c_is_pair k_is_pair).binds (ps := ["value"]) fun _ _ _ _ _ _ us hl => match us, hl with | [_], _ => rfl,
    a_need := f_need, d_need := _, F_need := fun_mk (st := s_need) l_need c_need k_need, m_need := PySem.W.mg_of X G a_need,
    b_need := (fun_mk (st := s_need) l_need c_need k_need).binds (ps := ["holds", "name"]) fun _ _ _ _ _ _ us hl => match us, hl with | [_, _], _ => rfl,
    a_is_coordinate := f_is_coordinate, d_is_coordinate := _, F_is_coordinate := fun_mk (st := s_is_coordinate) l_is_coordinate c_is_coordinate k_is_coordinate, m_is_coordinate := PySem.W.mg_of X G a_is_coordinate,
    b_is_coordinate := (fun_mk (st := s_is_coordinate) l_is_coordinate c_is_coordinate k_is_coordinate).binds (ps := ["value"]) fun _ _ _ _ _ _ us hl => match us, hl with | [_], _ => rfl,
    a_is_point := f_is_point, d_is_point := _, F_is_point := fun_mk (st := s_is_point) l_is_point c_is_point k_is_point, m_is_point := PySem.W.mg_of X G a_is_point,
    b_is_point := (fun_mk (st := s_is_point) l_is_point c_is_point k_is_point).binds (ps := ["value"]) fun _ _ _ _ _ _ us hl => match us, hl with | [_], _ => rfl,
    a_turn_of := f_turn_of, d_turn_of := _, F_turn_of := fun_mk (st := s_turn_of) l_turn_of c_turn_of k_turn_of, m_turn_of := PySem.W.mg_of X G a_turn_of,
    b_turn_of := (fun_mk (st := s_turn_of) l_turn_of c_turn_of k_turn_of).binds (ps := ["a", "b", "c"]) fun _ _ _ _ _ _ us hl => match us, hl with | [_, _, _], _ => rfl,
    a_turn := f_turn, d_turn := _, F_turn := fun_mk (st := s_turn) l_turn c_turn k_turn, m_turn := PySem.W.mg_of X G a_turn,
    b_turn := (fun_mk (st := s_turn) l_turn c_turn k_turn).binds (ps := ["a", "b", "c"]) fun _ _ _ _ _ _ us hl => match us, hl with | [_, _, _], _ => rfl,
    a__law_stream := f__law_stream, d__law_stream := _, F__law_stream := fun_mk (st := s__law_stream) l__law_stream c__law_stream k__law_stream, m__law_stream := PySem.W.mg_of X G a__law_stream,
    b__law_stream := (fun_mk (st := s__law_stream) l__law_stream c__law_stream k__law_stream).binds (ps := ["script"]) fun _ _ _ _ _ _ us hl => match us, hl with | [_], _ => rfl,
    a__law_next := f__law_next, d__law_next := _, F__law_next := fun_mk (st := s__law_next) l__law_next c__law_next k__law_next, m__law_next := PySem.W.mg_of X G a__law_next,
    b__law_next := (fun_mk (st := s__law_next) l__law_next c__law_next k__law_next).binds (ps := ["stream", "many"]) fun _ _ _ _ _ _ us hl => match us, hl with | [_, _], _ => rfl,
    a__law_is_integer := f__law_is_integer, d__law_is_integer := _, F__law_is_integer := fun_mk (st := s__law_is_integer) l__law_is_integer c__law_is_integer k__law_is_integer, m__law_is_integer := PySem.W.mg_of X G a__law_is_integer,
    b__law_is_integer := (fun_mk (st := s__law_is_integer) l__law_is_integer c__law_is_integer k__law_is_integer).binds (ps := ["actual"]) fun _ _ _ _ _ _ us hl => match us, hl with | [_], _ => rfl,
    a__law_equal := f__law_equal, d__law_equal := _, F__law_equal := fun_mk (st := s__law_equal) l__law_equal c__law_equal k__law_equal, m__law_equal := PySem.W.mg_of X G a__law_equal,
    b__law_equal := (fun_mk (st := s__law_equal) l__law_equal c__law_equal k__law_equal).binds (ps := ["actual", "due"]) fun _ _ _ _ _ _ us hl => match us, hl with | [_, _], _ => rfl,
    a__law_turn := f__law_turn, d__law_turn := _, F__law_turn := fun_mk (st := s__law_turn) l__law_turn c__law_turn k__law_turn, m__law_turn := PySem.W.mg_of X G a__law_turn,
    b__law_turn := (fun_mk (st := s__law_turn) l__law_turn c__law_turn k__law_turn).binds (ps := ["a", "b", "c"]) fun _ _ _ _ _ _ us hl => match us, hl with | [_, _, _], _ => rfl,
    a__law_point := f__law_point, d__law_point := _, F__law_point := fun_mk (st := s__law_point) l__law_point c__law_point k__law_point, m__law_point := PySem.W.mg_of X G a__law_point,
    b__law_point := (fun_mk (st := s__law_point) l__law_point c__law_point k__law_point).binds (ps := ["stream", "far"]) fun _ _ _ _ _ _ us hl => match us, hl with | [_, _], _ => rfl,
    a__law_far := f__law_far, d__law_far := _, F__law_far := fun_mk (st := s__law_far) l__law_far c__law_far k__law_far, m__law_far := PySem.W.mg_of X G a__law_far,
    b__law_far := (fun_mk (st := s__law_far) l__law_far c__law_far k__law_far).binds (ps := ["stream"]) fun _ _ _ _ _ _ us hl => match us, hl with | [_], _ => rfl,
    a__law_quarter := f__law_quarter, d__law_quarter := _, F__law_quarter := fun_mk (st := s__law_quarter) l__law_quarter c__law_quarter k__law_quarter, m__law_quarter := PySem.W.mg_of X G a__law_quarter,
    b__law_quarter := (fun_mk (st := s__law_quarter) l__law_quarter c__law_quarter k__law_quarter).binds (ps := ["p"]) fun _ _ _ _ _ _ us hl => match us, hl with | [_], _ => rfl,
    a_law := fa, d_law := _, F_law := fun_mk (st := s_law) l_law c_law k_law, m_law := PySem.W.mg_of X G a_law,
    b_law := (fun_mk (st := s_law) l_law c_law k_law).binds (ps := ["script"]) fun _ _ _ _ _ _ us hl => match us, hl with | [_], _ => rfl,
    n_abs := PySem.W.mg_none_of X G z_abs,
    n_all := PySem.W.mg_none_of X G z_all,
    n_bool := PySem.W.mg_none_of X G z_bool,
    n_int := PySem.W.mg_none_of X G z_int,
    n_isinstance := PySem.W.mg_none_of X G z_isinstance,
    n_len := PySem.W.mg_none_of X G z_len,
    n_list := PySem.W.mg_none_of X G z_list,
    n_range := PySem.W.mg_none_of X G z_range,
    n_str := PySem.W.mg_none_of X G z_str,
    n_tuple := PySem.W.mg_none_of X G z_tuple,
    c_HIGHEST := ⟨_, PySem.W.mg_of X G v_HIGHEST⟩,
    c_LOWEST := ⟨_, PySem.W.mg_of X G v_LOWEST⟩ }
  exact ⟨_, fun s v => .of_eq rfl, fun base _ _ => ok_law T⟩
theorem walk {l : PySem.W.OpenLaw} {q : Program} {loose : List Str} {XP : (Str → Option Value) → Heap → Prop} {YP : World → Heap → Prop} {d : DefRec} {K : Params → PySem.W.Frag} (hn : l.most = some 63) (hdf : d.params.defaults = [])
    (hY : ∀ (w : World) (h : Heap), YP w h → (K w.params).In h)
    (F : ∀ (w : World) (mg : Str → Option Value) (fa : Addr) (h : Heap), (K w.params).In h → h.Ns mainGlobals mg → mg d.name = some (.ref fa) →
      ∃ fd : FuncData, (∀ (s : Shared) (u : Value), BindsTo s fd ⟨[u], []⟩ [("script", u)]) ∧ ∀ base : Heap, (K w.params).In base → base.Ns mainGlobals mg → FnOk l.prog w (K w.params) mg base CX0 6 fa fd ["script"] (spLaw (K w.params))) :
    PySem.W.WalkO q loose XP YP l.row.toRowW d [] (fun f vs => PySem.call f vs) :=
  L2.walk_of (n := 63) (k := 6) (x := "script") (CX := fun _ => CX0) (sp := fun w => spLaw (K w.params)) hn (by decide) hdf ⟨rfl, by decide, by decide⟩ hY F (fun _ _ a ns hl _ hS => ⟨a, ns, rfl, hS, hl, fun _ => rfl⟩) fun _ _ _ _ _ z => z
end My
open PySem PySem.W PyProof.Rows
set_option maxRecDepth 100000 in
set_option maxHeartbeats 0 in
theorem PySem.Challenge.cw_trueatlas_k03_turns_holds : PySem.Challenge.rw_trueatlas_k03_turns.Holds := by
  w_on; o_law; k_head; (case hw => w_witness2)
  k_fill
  refine My.walk (l := PySem.Challenge.rw_trueatlas_k03_turns) rfl rfl (fun w h Y => PySem.W.kIn_of Y) ?F
  case F =>
    intro w mg fa h KX G hmg
    refine' My.all_mk KX G hmg ?a_is_whole ?l_is_whole ?c_is_whole ?k_is_whole ?a_is_pair ?l_is_pair ?c_is_pair ?k_is_pair ?a_need ?l_need ?c_need ?k_need ?a_is_coordinate ?l_is_coordinate ?c_is_coordinate ?k_is_coordinate ?a_is_point ?l_is_point ?c_is_point ?k_is_point ?a_turn_of ?l_turn_of ?c_turn_of ?k_turn_of ?a_turn ?l_turn ?c_turn ?k_turn ?a__law_stream ?l__law_stream ?c__law_stream ?k__law_stream ?a__law_next ?l__law_next ?c__law_next ?k__law_next ?a__law_is_integer ?l__law_is_integer ?c__law_is_integer ?k__law_is_integer ?a__law_equal ?l__law_equal ?c__law_equal ?k__law_equal ?a__law_turn ?l__law_turn ?c__law_turn ?k__law_turn ?a__law_point ?l__law_point ?c__law_point ?k__law_point ?a__law_far ?l__law_far ?c__law_far ?k__law_far ?a__law_quarter ?l__law_quarter ?c__law_quarter ?k__law_quarter ?a_law ?l_law ?c_law ?k_law ?z_abs ?z_all ?z_bool ?z_int ?z_isinstance ?z_len ?z_list ?z_range ?z_str ?z_tuple ?v_HIGHEST ?v_LOWEST
    (case a_is_whole => k_is)
    (case l_is_whole => k_is)
    (case c_is_whole => k_is)
    (case k_is_whole => k_is)
    (case a_is_pair => k_is)
    (case l_is_pair => k_is)
    (case c_is_pair => k_is)
    (case k_is_pair => k_is)
    (case a_need => k_is)
    (case l_need => k_is)
    (case c_need => k_is)
    (case k_need => k_is)
    (case a_is_coordinate => k_is)
    (case l_is_coordinate => k_is)
    (case c_is_coordinate => k_is)
    (case k_is_coordinate => k_is)
    (case a_is_point => k_is)
    (case l_is_point => k_is)
    (case c_is_point => k_is)
    (case k_is_point => k_is)
    (case a_turn_of => k_is)
    (case l_turn_of => k_is)
    (case c_turn_of => k_is)
    (case k_turn_of => k_is)
    (case a_turn => k_is)
    (case l_turn => k_is)
    (case c_turn => k_is)
    (case k_turn => k_is)
    (case a__law_stream => k_is)
    (case l__law_stream => k_is)
    (case c__law_stream => k_is)
    (case k__law_stream => k_is)
    (case a__law_next => k_is)
    (case l__law_next => k_is)
    (case c__law_next => k_is)
    (case k__law_next => k_is)
    (case a__law_is_integer => k_is)
    (case l__law_is_integer => k_is)
    (case c__law_is_integer => k_is)
    (case k__law_is_integer => k_is)
    (case a__law_equal => k_is)
    (case l__law_equal => k_is)
    (case c__law_equal => k_is)
    (case k__law_equal => k_is)
    (case a__law_turn => k_is)
    (case l__law_turn => k_is)
    (case c__law_turn => k_is)
    (case k__law_turn => k_is)
    (case a__law_point => k_is)
    (case l__law_point => k_is)
    (case c__law_point => k_is)
    (case k__law_point => k_is)
    (case a__law_far => k_is)
    (case l__law_far => k_is)
    (case c__law_far => k_is)
    (case k__law_far => k_is)
    (case a__law_quarter => k_is)
    (case l__law_quarter => k_is)
    (case c__law_quarter => k_is)
    (case k__law_quarter => k_is)
    (case a_law => k_is)
    (case l_law => k_is)
    (case c_law => k_is)
    (case k_law => k_is)
    (case z_abs => k_is)
    (case z_all => k_is)
    (case z_bool => k_is)
    (case z_int => k_is)
    (case z_isinstance => k_is)
    (case z_len => k_is)
    (case z_list => k_is)
    (case z_range => k_is)
    (case z_str => k_is)
    (case z_tuple => k_is)
    (case v_HIGHEST => k_is)
    (case v_LOWEST => k_is)


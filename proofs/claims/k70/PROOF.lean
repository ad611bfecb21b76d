import PyProof.Rows.All
import Wide.All
import OpenK.AllK
import Wide.FinOn
import HandS.ForMost
import HandS.ForExc
import HandS.IsInst
import HandS.Wide
import HandS.TupLe
import HandS.TupAny
import HandS.Gcd
import HandS.Codes
import HandS.AnyAll
import KE.KExcIs
import HandS.GenList
import HandS.Walk
import PyProof.SumAny
import PyProof.SeqWrite
import HandS.EndTab
import HandS.Zip
import HandS.Zip
import HandS.Walk
import KE.DataEq
import HandS.Walk
import HandS.More
import HandS.TupMul
import HandS.Zip
import PySem.Challenge.RW_trueatlas_k70_packed_sheets
set_option Elab.async false
set_option linter.all false
set_option maxRecDepth 100000
set_option maxHeartbeats 4000000
namespace My
open PySem L2

/-! ## heaps: what stood stands; a table of a code object may have grown -/
/-- no table of a code object -/
def NT (o : HO) : Prop := ∀ ps, o ≠ .tbl ps
/-- what was o stands at b -/
def Std (H : Hp) (b : Addr) (o : HO) : Prop := H b = some o ∨ ∃ ps qs, o = .tbl ps ∧ H b = some (.tbl qs) ∧ (TriplesOk ps.toList → TriplesOk qs.toList)
theorem Std.nt {H : Hp} {b : Addr} {o : HO} (h : Std H b o) (n : NT o) : H b = some o := by
  rcases h with h | ⟨ps, _, e, _⟩
  · exact h
  · exact absurd e (n ps)
theorem Std.ne_none {H : Hp} {b : Addr} {o : HO} (h : Std H b o) : H b ≠ none := by
  rcases h with h | ⟨_, _, _, h, _⟩ <;> rw [h] <;> simp
theorem Std.over {H : Hp} {b p : Addr} {o u : HO} (h : Std H b o) (n : b ≠ p) : Std (upd H p u) b o := by
  unfold Std at h ⊢
  rw [upd_ne n]; exact h
theorem Std.next {H H' : Hp} {b : Addr} {o : HO} (h : Std H b o) (k : ∀ u, H b = some u → Std H' b u) : Std H' b o := by
  rcases h with h | ⟨ps, qs, e, h, t⟩
  · exact k o h
  · rcases k _ h with k | ⟨ps2, rs, e2, k, t2⟩
    · exact .inr ⟨ps, qs, e, k, t⟩
    · injection e2 with e2
      subst e2
      exact .inr ⟨ps, rs, e, k, fun z => t2 (t z)⟩
/-- all that was tracked stands -/
def Same (H H' : Hp) : Prop := ∀ b o, H b = some o → Std H' b o
theorem Same.refl (H : Hp) : Same H H := fun _ _ h => .inl h
theorem Same.trans {H H1 H2 : Hp} (a : Same H H1) (b : Same H1 H2) : Same H H2 := fun c o h => (a c o h).next (b c)
theorem Same.free {H H' : Hp} (e : Same H H') {l : Addr} (h : H' l = none) : H l = none := by
  cases q : H l with
  | none => rfl
  | some o => exact absurd h (e l o q).ne_none
theorem Same.get {H H' : Hp} {b : Addr} {o : HO} (e : Same H H') (h : H b = some o) (n : NT o := by intro _ z; cases z) : H' b = some o := (e b o h).nt n
theorem Same.seq {K : PySem.W.Frag} {H H' : Hp} {a : Addr} {xs : List V} (e : Same H H') (h : SqL K H a xs) : SqL K H' a xs := by
  rcases h with (h | ⟨o, h⟩) | h
  · exact .inl (.inl (e.get h))
  · exact .inl (.inr ⟨o, e.get h⟩)
  · exact .inr h
/-! ## the tables of the code objects -/
/-- the tables stand -/
def Tbs (ts : List Addr) (H : Hp) : Prop := ∀ P ∈ ts, GxR.TabG H P
theorem tabG_std {H H' : Hp} {P : Addr} (h : GxR.TabG H P) (k : ∀ u, H P = some u → Std H' P u) : GxR.TabG H' P := by
  obtain ⟨ps, e, t⟩ := h
  rcases k _ e with k | ⟨ps2, qs, e2, k, t2⟩
  · exact ⟨ps, k, t⟩
  · injection e2 with e2
    subst e2
    exact ⟨qs, k, t2 t⟩
theorem Tbs.same {ts : List Addr} {H H' : Hp} (h : Tbs ts H) (e : Same H H') : Tbs ts H' := fun P hP => tabG_std (h P hP) (e P)
theorem same_tab {P : Addr} {H H' : Hp} (g : GxR.TabG H P) (h : GxR.Tabbed P H H') : Same H H' := fun b o e => by
  by_cases q : b = P
  · subst q
    obtain ⟨ps, e1, t⟩ := g
    obtain ⟨qs, e2, t2⟩ := h.1
    rw [e1] at e
    cases e
    exact .inr ⟨ps, qs, rfl, e2, fun _ => t2⟩
  · exact .inl (by rw [h.2 b q]; exact e)

/-! ## small rules -/
theorem pe_gI {X : Cx} {x : Str} {i : Int} {pos : Pos} (hm : ∃ t, X.mg x = some (.int i t)) (hg : Gl X x := by rfl) (hd : (x == ("__debug__" : Str)) = false := by decide) (hcd : (x == ("__classdict__" : Str)) = false := by decide) : PE X (.Name x pos) (tC (.int i)) := by
  obtain ⟨t, e⟩ := hm
  exact pe_glob hg e ⟨t, rfl⟩ hd
theorem ifD {c A B : Prop} [Decidable c] (h1 : c → A) (h2 : ¬ c → B) : if decide c = true then A else B := by
  by_cases h : c
  · rw [if_pos (decide_eq_true h)]; exact h1 h
  · rw [if_neg (by rw [decide_eq_false h]; exact Bool.false_ne_true)]; exact h2 h
theorem ifND {c A B : Prop} [Decidable c] (h1 : ¬ c → A) (h2 : c → B) : if (!decide c) = true then A else B := by
  by_cases h : c
  · rw [if_neg (by rw [decide_eq_true h]; exact Bool.false_ne_true)]; exact h2 h
  · rw [if_pos (by rw [decide_eq_false h]; rfl)]; exact h1 h
theorem ifB {b : Bool} {A B : Prop} (h1 : b = true → A) (h2 : b = false → B) : if b = true then A else B := by
  cases b
  · exact iteF (h2 rfl)
  · exact iteT (h1 rfl)
theorem ifTr {b : Bool} {A B : Prop} (e : b = true) (h : A) : if b = true then A else B := by rw [if_pos e]; exact h
theorem ifFa {b : Bool} {A B : Prop} (e : b = false) (h : B) : if b = true then A else B := by rw [e]; exact iteF h

/-! ## heaps: all that stood stands, but for what is at s -/
def But (s : Addr) (H H' : Hp) : Prop := ∀ b o, b ≠ s → H b = some o → Std H' b o
theorem But.refl {s : Addr} {H : Hp} : But s H H := fun _ _ _ e => .inl e
theorem But.trans {s : Addr} {H H1 H2 : Hp} (a : But s H H1) (b : But s H1 H2) : But s H H2 := fun c o n e => (a c o n e).next fun u k => b c u n k
theorem But.new {s p : Addr} {H : Hp} {o : HO} (n : H p = none) : But s H (upd H p o) := fun b u _ e => .inl (by
  rw [upd_ne (ne_of_none e n)]; exact e)
theorem But.then_new {s p : Addr} {H H1 : Hp} {o : HO} (a : But s H H1) (n : H1 p = none) : But s H (upd H1 p o) := a.trans (But.new n)
theorem But.at {s : Addr} {H : Hp} {o : HO} : But s H (upd H s o) := fun b u n e => .inl (by rw [upd_ne n]; exact e)
theorem But.then_at {s : Addr} {H H1 : Hp} {o : HO} (a : But s H H1) : But s H (upd H1 s o) := a.trans But.at
theorem But.of_same {s : Addr} {H H' : Hp} (a : Same H H') : But s H H' := fun b o _ e => a b o e
theorem But.then_same {s : Addr} {H H1 H2 : Hp} (a : But s H H1) (b : Same H1 H2) : But s H H2 := a.trans (But.of_same b)
theorem But.get {s b : Addr} {H H' : Hp} {o : HO} (e : But s H H') (q : b ≠ s) (h : H b = some o) (n : NT o := by intro _ z; cases z) : H' b = some o := (e b o q h).nt n
theorem same_new {p : Addr} {H : Hp} {o : HO} (n : H p = none) : Same H (upd H p o) := fun b u e => .inl (by
  rw [upd_ne (ne_of_none e n)]; exact e)
theorem same_then {p : Addr} {H H1 : Hp} {o : HO} (a : Same H H1) (n : H1 p = none) : Same H (upd H1 p o) := a.trans (same_new n)
/-- behind a new object's change -/
theorem Same.put {p : Addr} {H H1 : Hp} {o : HO} (a : Same H H1) (n : H p = none) : Same H (upd H1 p o) := fun b u e => (a b u e).over (ne_of_none e n)
theorem But.put {s p : Addr} {H H1 : Hp} {o : HO} (a : But s H H1) (n : H p = none) : But s H (upd H1 p o) := fun b u q e => (a b u q e).over (ne_of_none e n)
/-- the tables stand, whatever becomes of a list -/
theorem Tbs.but {ts : List Addr} {s : Addr} {H H' : Hp} (h : Tbs ts H) (e : But s H H') (l : ∃ xs, H s = some (.lst xs)) : Tbs ts H' := fun P hP => by
  have g := h P hP
  refine tabG_std g fun u k => e P u ?_ k
  obtain ⟨ps, e1, _⟩ := g
  obtain ⟨xs, e2⟩ := l
  intro z
  rw [z, e2] at e1
  cases e1
theorem Tbs.over {ts : List Addr} {p : Addr} {H : Hp} {o : HO} (h : Tbs ts H) (n : H p = none) : Tbs ts (upd H p o) := h.same (same_new n)
theorem Tbs.put {ts : List Addr} {p : Addr} {H : Hp} {o : HO} (h : Tbs ts H) (l : ∃ xs, H p = some (.lst xs)) : Tbs ts (upd H p o) := h.but But.at l
/-- what stands at s is the stream's list: no tuple -/
def Lst (H : Hp) (s : Addr) : Prop := ∃ xs, H s = some (.lst xs)

/-! ## tuples -/
section
variable {K : PySem.W.Frag} {H H' : Hp} {a p s : Addr} {xs : List V} {o : HO}
theorem tHere : SqT K (upd H p (.tup xs)) p xs := SqT.of upd_same
theorem tSame (e : Same H H') (h : SqT K H a xs) : SqT K H' a xs := by
  rcases h with (h | ⟨o, h⟩) | h
  · exact .inl (.inl (e.get h))
  · exact .inl (.inr ⟨o, e.get h⟩)
  · exact .inr h
theorem tOver (n : H p = none) (h : SqT K H a xs) : SqT K (upd H p o) a xs := tSame (same_new n) h
theorem tAt (n : ∃ ys, H s = some (.lst ys)) (h : SqT K H a xs) : SqT K (upd H s o) a xs := by
  obtain ⟨ys, n⟩ := n
  rcases h with (h | ⟨o, h⟩) | h
  · exact .inl (.inl (by rw [upd_ne (ne_of h n (by intro z; cases z))]; exact h))
  · exact .inl (.inr ⟨o, by rw [upd_ne (ne_of h n (by intro z; cases z))]; exact h⟩)
  · exact .inr h
theorem tBut (e : But s H H') (n : Lst H s) (h : SqT K H a xs) : SqT K H' a xs := by
  obtain ⟨ys, n⟩ := n
  rcases h with (h | ⟨o, h⟩) | h
  · exact .inl (.inl (e.get (ne_of h n (by intro z; cases z)) h))
  · exact .inl (.inr ⟨o, e.get (ne_of h n (by intro z; cases z)) h⟩)
  · exact .inr h
theorem lHere : SqL K (upd H p (.lst xs)) p xs := SqL.of upd_same
theorem Tbs.strm {ts : List Addr} {s b : Addr} {H H' : Hp} (h : Tbs ts H) (e : But s H H') (l : Lst H s) : Tbs ts H' := h.but e l
theorem lOver (n : H p = none) (h : SqL K H a xs) : SqL K (upd H p o) a xs := Same.seq (same_new n) h
theorem rOver (n : H p = none) {u : HO} (h : H a = some u) : upd H p o a = some u := by rw [upd_ne (ne_of_none h n)]; exact h
end
end My

namespace My
open PySem L2
/-! ## kinds of values -/
inductive Ty (K : PySem.W.Frag) (H : Hp) : V → String → Prop where
  | non : Ty K H .non "NoneType"
  | bl (b : Bool) : Ty K H (.bl b) "bool"
  | int (i : Int) : Ty K H (.int i) "int"
  | str (x : Str) : Ty K H (.str x) "str"
  | tup {a : Addr} {xs : List V} (h : SqT K H a xs) : Ty K H (.ref a) "tuple"
  | lst {a : Addr} {xs : List V} (h : SqL K H a xs) : Ty K H (.ref a) "list"
theorem Ty.x {K : PySem.W.Frag} {H : Hp} {v : V} {n : String} (h : Ty K H v n) : TyX K H v (.type n) := by
  cases h with
  | non => exact .base .non
  | bl b => exact .base (.bl b)
  | int i => exact .base (.int i)
  | str x => exact .base (.str x)
  | tup h =>
    rcases h with (h | ⟨o, h⟩) | ⟨o, its, n, e, c, _⟩
    · exact .base (.tup h)
    · exact .fTuple h
    · exact .kTuple e c
  | lst h =>
    rcases h with (h | ⟨o, h⟩) | ⟨o, its, n, e, c, _⟩
    · exact .base (.lst h)
    · exact .base (.frz h)
    · exact .kList e c
/-- isinstance's answers among these -/
def isaB (a b : String) : Bool := (kitB a b).getD false
theorem isa {K : PySem.W.Frag} {a b : String} (h : (kitB a b).isSome = true) : PySem.W.kitOne K (.type a) (.type b) = some (isaB a b) := by
  refine kit_ty ?_
  unfold isaB
  cases e : kitB a b with
  | none => rw [e] at h; cases h
  | some r => rfl
def six : List String := ["NoneType", "bool", "int", "str", "tuple", "list"]
theorem isa_all : (six.all fun a => six.tail.all fun b => (kitB a b).isSome) = true := by decide +kernel
theorem isa_tab : (six.all fun a => six.tail.all fun b => isaB a b == (a == b || (a == "bool" && b == "int"))) = true := by decide +kernel
theorem Ty.six {K : PySem.W.Frag} {H : Hp} {v : V} {n : String} (h : Ty K H v n) : n ∈ six := by
  cases h <;> simp [My.six]
theorem isaN {K : PySem.W.Frag} {n b : String} (h : n ∈ My.six) (hb : b ∈ My.six.tail) : PySem.W.kitOne K (.type n) (.type b) = some (n == b || (n == "bool" && b == "int")) := by
  have h1 := List.all_eq_true.mp (List.all_eq_true.mp isa_all n h) b hb
  have h2 := List.all_eq_true.mp (List.all_eq_true.mp isa_tab n h) b hb
  rw [isa h1, eq_of_beq h2]
/-- whether a value is an int (True and False are none) -/
def isI : V → Bool
  | .int _ => true
  | _ => false
theorem small {n : Nat} (h : Nat.ble n 100 = true) : n ≤ sizeLine := Nat.le_trans (Nat.le_of_ble_eq_true h) (by decide)
/-! ## indexes -/
theorem at0 {α : Type} {a : α} {r : List α} : atI (a :: r) 0 = some a := atI_nat (j := 0) rfl
theorem at1 {α : Type} {a b : α} {r : List α} : atI (a :: b :: r) 1 = some b := atI_nat (j := 1) rfl
theorem at2 {α : Type} {a b c : α} {r : List α} : atI (a :: b :: c :: r) 2 = some c := atI_nat (j := 2) rfl
theorem at3 {α : Type} {a b c d : α} {r : List α} : atI (a :: b :: c :: d :: r) 3 = some d := atI_nat (j := 3) rfl
end My

namespace My
open PySem L2
/-! ## points -/
def coordB : V → Bool
  | .int i => decide (-1000 ≤ i) && decide (i ≤ 1000)
  | _ => false
def pointB : List V → Bool
  | [u, v] => coordB u && coordB v
  | _ => false
/-- small enough to be multiplied -/
def Sm (x : Int) : Prop := -1099511627776 ≤ x ∧ x ≤ 1099511627776
def turnI (ax ay bx dy cx cy : Int) : Int := (bx - ax) * (cy - ay) - (dy - ay) * (cx - ax)
/-- whether a point's numbers are those of the map -/
def On (x y : Int) : Prop := -1000 ≤ x ∧ x ≤ 1000 ∧ -1000 ≤ y ∧ y ≤ 1000
theorem On.b {x y : Int} (h : On x y) : pointB [.int x, .int y] = true := by
  obtain ⟨h1, h2, h3, h4⟩ := h
  simp [pointB, coordB, h1, h2, h3, h4]
theorem On.sx {x y : Int} (h : On x y) : Sm x := by unfold On at h; unfold Sm; omega
theorem On.sy {x y : Int} (h : On x y) : Sm y := by unfold On at h; unfold Sm; omega
/-! ## the stream of a law -/
/-- at s: a stream: a list of ints, the cell, its number -/
def Strm (H : Hp) (s b : Addr) : Prop := ∃ (ns : List Int) (c k : Int), H b = some (.lst (ns.map V.int)) ∧ H s = some (.lst [.ref b, .int c, .int k]) ∧ 0 ≤ c ∧ 0 ≤ k
theorem Strm.lst {H : Hp} {s b : Addr} (h : Strm H s b) : Lst H s := by
  obtain ⟨_, _, _, _, h, _⟩ := h
  exact ⟨_, h⟩
theorem tyL {K : PySem.W.Frag} {H : Hp} {p : Addr} {xs : List V} (h : H p = some (.lst xs)) : tyV K "list" (.ref p) H := .inl ⟨rfl, xs, SqL.of h⟩
theorem Strm.same {H H' : Hp} {s b : Addr} (h : Strm H s b) (e : Same H H') : Strm H' s b := by
  obtain ⟨ns, c, k, h1, h2, h3, h4⟩ := h
  exact ⟨ns, c, k, e.get h1 (by intro _ z; cases z), e.get h2, h3, h4⟩
theorem Strm.over {H : Hp} {s b p : Addr} {o : HO} (h : Strm H s b) (n : H p = none) : Strm (upd H p o) s b := h.same (same_new n)
/-- a list of the law's own grows -/
theorem Strm.at {H : Hp} {s b p : Addr} {o : HO} (h : Strm H s b) (n1 : p ≠ s) (n2 : p ≠ b) : Strm (upd H p o) s b := by
  obtain ⟨ns, c, k, h1, h2, h3, h4⟩ := h
  exact ⟨ns, c, k, by rw [upd_ne n2.symm]; exact h1, by rw [upd_ne n1.symm]; exact h2, h3, h4⟩
theorem Strm.new1 {H : Hp} {s b p : Addr} (h : Strm H s b) (n : H p = none) : p ≠ s := by
  obtain ⟨ns, c, k, h1, h2, h3, h4⟩ := h
  exact (ne_of_none h2 n).symm
theorem Strm.new2 {H : Hp} {s b p : Addr} (h : Strm H s b) (n : H p = none) : p ≠ b := by
  obtain ⟨ns, c, k, h1, h2, h3, h4⟩ := h
  exact (ne_of_none h1 n).symm
theorem ints_no_ref {ns : List Int} {b : Addr} {r : List V} : HO.lst (ns.map V.int) ≠ HO.lst (.ref b :: r) := by
  intro e
  cases ns with
  | nil => injection e with e; cases e
  | cons n ns => injection e with e; injection e with e _; cases e
/-- the two objects of a stream stand apart -/
theorem Strm.ne {H : Hp} {b s : Addr} {ns : List Int} {x : Addr} {r : List V} (h1 : H b = some (.lst (ns.map V.int))) (h2 : H s = some (.lst (.ref x :: r))) : b ≠ s := ne_of h1 h2 ints_no_ref
/-! ## digits -/
theorem fmod_lt {a m : Int} (hm : 0 < m) : a.fmod m < m := by
  rw [Int.fmod_eq_emod_of_nonneg _ (Int.le_of_lt hm)]; exact Int.emod_lt_of_pos _ hm
theorem fmod_ge {a m : Int} (hm : 0 < m) : 0 ≤ a.fmod m := by
  rw [Int.fmod_eq_emod_of_nonneg _ (Int.le_of_lt hm)]; exact Int.emod_nonneg _ (by omega)
theorem div_ge {a m : Int} (ha : 0 ≤ a) (hm : 0 < m) : 0 ≤ a / m := Int.ediv_nonneg ha (Int.le_of_lt hm)
end My

namespace My
open PySem L2
/-! ## two values with the same content, to a depth below n -/
inductive Dq (K : PySem.W.Frag) (H : Hp) : Nat → V → V → Prop where
  | non (n : Nat) : Dq K H (n + 1) .non .non
  | bl (n : Nat) (b : Bool) : Dq K H (n + 1) (.bl b) (.bl b)
  | int (n : Nat) (i : Int) : Dq K H (n + 1) (.int i) (.int i)
  | str (n : Nat) (x : Str) : Dq K H (n + 1) (.str x) (.str x)
  | lst {n : Nat} {a b : Addr} {xs ys : List V} (h1 : SqL K H a xs) (h2 : SqL K H b ys) (hl : xs.length = ys.length) (hz : ys.length ≤ 1000)
      (h : ∀ (i : Nat) u v, xs[i]? = some u → ys[i]? = some v → Dq K H n u v) : Dq K H (n + 1) (.ref a) (.ref b)
  | tup {n : Nat} {a b : Addr} {xs ys : List V} (h1 : SqT K H a xs) (h2 : SqT K H b ys) (hl : xs.length = ys.length) (hz : ys.length ≤ 1000)
      (h : ∀ (i : Nat) u v, xs[i]? = some u → ys[i]? = some v → Dq K H n u v) : Dq K H (n + 1) (.ref a) (.ref b)
theorem Dq.same {K : PySem.W.Frag} {H H' : Hp} (e : Same H H') {n : Nat} {x y : V} (h : Dq K H n x y) : Dq K H' n x y := by
  induction h with
  | non n => exact .non n
  | bl n b => exact .bl n b
  | int n i => exact .int n i
  | str n x => exact .str n x
  | lst h1 h2 hl hz _ ih => exact .lst (e.seq h1) (e.seq h2) hl hz ih
  | tup h1 h2 hl hz _ ih => exact .tup (tSame e h1) (tSame e h2) hl hz ih
theorem get_at {xs : List V} {i : Nat} (h : i < xs.length) : xs[i]? = some xs[i] := List.getElem?_eq_getElem h
theorem line1000 {n : Nat} (h : n ≤ 1000) : n < 2 ^ 62 := Nat.lt_of_le_of_lt h (by decide)
end My

namespace My
open PySem L2
section
variable {K : PySem.W.Frag} {H H' : Hp} {a p s : Addr} {xs : List V} {o : HO}
/-- a new list stands behind a draw -/
theorem rBut {b : Addr} (e : But s (upd H p o) H') (n : H p = none) (S : Strm H s b) (nt : NT o := by intro _ z; cases z) : H' p = some o := by
  obtain ⟨ns, c, k, h1, h2, _⟩ := S
  exact e.get (ne_of_none h2 n).symm upd_same nt
theorem tButS {b : Addr} (e : But s H H') (S : Strm H s b) (h : SqT K H a xs) : SqT K H' a xs := tBut e S.lst h
end
/-- one of the four -/
def Far (f : Int) : Prop := f = 2 ∨ f = 4 ∨ f = 9 ∨ f = 1000
theorem Far.le {f : Int} (h : Far f) : 2 ≤ f ∧ f ≤ 1000 := by unfold Far at h; omega
/-- a point within far -/
def In (f x y : Int) : Prop := -f ≤ x ∧ x ≤ f ∧ -f ≤ y ∧ y ≤ f
theorem In.on {f x y : Int} (h : In f x y) (hf : f ≤ 1000) : On x y := by unfold In at h; unfold On; omega
theorem atFour {α : Type} {a b c d : α} {i : Int} (h0 : 0 ≤ i) (h1 : i < 4) : ∃ v, atI [a, b, c, d] i = some v ∧ (v = a ∨ v = b ∨ v = c ∨ v = d) := by
  rcases (show i = 0 ∨ i = 1 ∨ i = 2 ∨ i = 3 by omega) with rfl | rfl | rfl | rfl
  · exact ⟨_, at0, .inl rfl⟩
  · exact ⟨_, at1, .inr (.inl rfl)⟩
  · exact ⟨_, at2, .inr (.inr (.inl rfl))⟩
  · exact ⟨_, at3, .inr (.inr (.inr rfl))⟩
theorem atThree {α : Type} {a b c : α} {i : Int} (h0 : 0 ≤ i) (h1 : i < 3) : ∃ v, atI [a, b, c] i = some v ∧ (v = a ∨ v = b ∨ v = c) := by
  rcases (show i = 0 ∨ i = 1 ∨ i = 2 by omega) with rfl | rfl | rfl
  · exact ⟨_, at0, .inl rfl⟩
  · exact ⟨_, at1, .inr (.inl rfl)⟩
  · exact ⟨_, at2, .inr (.inr rfl)⟩
theorem atTwo {α : Type} {a b : α} {i : Int} (h0 : 0 ≤ i) (h1 : i < 2) : ∃ v, atI [a, b] i = some v ∧ (v = a ∨ v = b) := by
  rcases (show i = 0 ∨ i = 1 by omega) with rfl | rfl
  · exact ⟨_, at0, .inl rfl⟩
  · exact ⟨_, at1, .inr rfl⟩
/-- an item of a list -/
theorem atAny {α : Type} {xs : List α} {i : Int} (h0 : 0 ≤ i) (h1 : i < xs.length) : ∃ v, atI xs i = some v ∧ v ∈ xs := by
  obtain ⟨j, rfl⟩ : ∃ j : Nat, i = j := ⟨i.toNat, by omega⟩
  have h : j < xs.length := by omega
  exact ⟨xs[j], atI_nat (List.getElem?_eq_getElem h), List.getElem_mem h⟩
/-! ## turns -/
theorem turn_cyc (ax ay bx dy cx cy : Int) : turnI bx dy cx cy ax ay = turnI ax ay bx dy cx cy := by unfold turnI; grind
theorem turn_swap (ax ay bx dy cx cy : Int) : turnI bx dy ax ay cx cy = 0 - turnI ax ay bx dy cx cy := by unfold turnI; grind
theorem turn_quarter (ax ay bx dy cx cy : Int) : turnI (0 - ay) ax (0 - dy) bx (0 - cy) cx = turnI ax ay bx dy cx cy := by unfold turnI; grind
theorem turn_mirror (ax ay bx dy cx cy : Int) : turnI (0 - ax) ay (0 - bx) dy (0 - cx) cy = 0 - turnI ax ay bx dy cx cy := by unfold turnI; grind
theorem turn_moved (ax ay bx dy cx cy d e : Int) : turnI (ax + d) (ay - e) (bx + d) (dy - e) (cx + d) (cy - e) = turnI ax ay bx dy cx cy := by unfold turnI; grind
theorem turn_four (ax ay bx dy cx cy ex ey : Int) : turnI ax ay bx dy cx cy + turnI ax ay cx cy ex ey = turnI ax ay bx dy ex ey + turnI bx dy cx cy ex ey := by unfold turnI; grind
end My
namespace My
open PySem L2
theorem two_ints {K : PySem.W.Frag} {H : Hp} {x y : Int} : ∀ v ∈ [V.int x, V.int y], ∃ m, Ty K H v m := by
  intro v hv
  rcases List.mem_cons.mp hv with rfl | hv
  · exact ⟨_, .int _⟩
  · rcases List.mem_cons.mp hv with rfl | hv
    · exact ⟨_, .int _⟩
    · cases hv
end My

namespace My
open PySem L2
/-! ## lists of points: each with where it stands -/
abbrev Zp := Addr × Int × Int
/-- what a list of points holds -/
abbrev refs (zs : List Zp) : List V := zs.map fun z => V.ref z.1
def Pts (K : PySem.W.Frag) (H : Hp) (zs : List Zp) : Prop := ∀ z ∈ zs, SqT K H z.1 [.int z.2.1, .int z.2.2]
section
variable {K : PySem.W.Frag} {H H' : Hp} {s b D p : Addr} {zs : List Zp} {z : Zp} {o : HO}
theorem Pts.nil : Pts K H [] := fun _ h => by cases h
theorem Pts.same (e : Same H H') (h : Pts K H zs) : Pts K H' zs := fun z hz => tSame e (h z hz)
theorem Pts.but (e : But s H H') (S : Strm H s b) (h : Pts K H zs) : Pts K H' zs := fun z hz => tButS e S (h z hz)
theorem Pts.over (n : H p = none) (h : Pts K H zs) : Pts K (upd H p o) zs := h.same (same_new n)
theorem Pts.at (n : ∃ ys, H D = some (.lst ys)) (h : Pts K H zs) : Pts K (upd H D o) zs := fun z hz => tAt n (h z hz)
theorem Pts.one (h : SqT K H z.1 [.int z.2.1, .int z.2.2]) : Pts K H [z] := fun y hy => by
  rw [List.mem_singleton] at hy; rw [hy]; exact h
theorem Pts.app {ys : List Zp} (h : Pts K H zs) (g : Pts K H ys) : Pts K H (zs ++ ys) := fun y hy =>
  (List.mem_append.mp hy).elim (h y) (g y)
theorem Pts.get (h : Pts K H zs) {i : Nat} (e : zs[i]? = some z) : SqT K H z.1 [.int z.2.1, .int z.2.2] := h z (List.mem_of_getElem? e)
end
theorem four_of {α : Type} {xs : List α} (h : xs.length = 4) : ∃ a b c d, xs = [a, b, c, d] := by
  match xs, h with
  | [a, b, c, d], _ => exact ⟨a, b, c, d, rfl⟩
theorem three_of {α : Type} {xs : List α} (h : xs.length = 3) : ∃ a b c, xs = [a, b, c] := by
  match xs, h with
  | [a, b, c], _ => exact ⟨a, b, c, rfl⟩
theorem line_of {n : Nat} (h : n ≤ 1000) : n < sizeLine := small1000 h
end My
namespace My
open PySem L2
def spLaw (K : PySem.W.Frag) : Sp := fun vs H Q _ => ∃ (a : Addr) (ns : List Int), vs = [.ref a] ∧ SqL K H a (ns.map V.int) ∧ ns.length ≤ 63 ∧ ∀ H', Q (.bl true) H'
theorem On.quarter {x y : Int} (h : On x y) : On (0 - y) x := by unfold On at *; omega
theorem On.mirror {x y : Int} (h : On x y) : On (0 - x) y := by unfold On at *; omega
end My

namespace My
open PySem L2
/-! ## greatest common divisors -/
theorem op_fdivV {X : Cx} : OpR X (binaryOp .FloorDiv) (rI (fun _ j => j ≠ 0 ∧ j.natAbs < 2 ^ 9000) fun i j => .int (i.fdiv j)) := opI fun i j _ _ _ _ _ hc q =>
  PyProof.Rows.floordiv_int hc.1 q (.inl (PyProof.noPylong_of_log2 (by
    by_cases z : j.natAbs = 0
    · rw [z]; decide
    · exact (Nat.log2_lt z).mpr hc.2)))
/-- the state of Euclid's loop behind i turns -/
structure GI (n d M i x y : Nat) : Prop where
  g : Nat.gcd x y = Nat.gcd n d
  hy : y * 2 ^ (i / 2) ≤ M
  hx : x * 2 ^ ((i - 1) / 2) ≤ M
  le : 1 ≤ i → y ≤ x
theorem GI.start {n d M : Nat} (h1 : n ≤ M) (h2 : d ≤ M) : GI n d M 0 n d := ⟨rfl, by simpa using h2, by simpa using h1, fun h => absurd h (by decide)⟩
theorem mod_half {x y : Nat} (h0 : 0 < y) (h : y ≤ x) : 2 * (x % y) ≤ x := by
  have h1 := Nat.mod_lt x h0
  have h2 := Nat.div_add_mod x y
  have h3 : 1 ≤ x / y := (Nat.le_div_iff_mul_le h0).mpr (by omega)
  have h4 : y * 1 ≤ y * (x / y) := Nat.mul_le_mul_left y h3
  omega
theorem GI.step {n d M i x y : Nat} (h : GI n d M i x y) (h0 : 0 < y) : GI n d M (i + 1) y (x % y) := by
  have hm := Nat.mod_lt x h0
  refine ⟨?_, ?_, ?_, fun _ => Nat.le_of_lt hm⟩
  · rw [← h.g, Nat.gcd_comm x y, Nat.gcd_rec y x, Nat.gcd_comm]
  · by_cases hi : 1 ≤ i
    · have e : (i + 1) / 2 = (i - 1) / 2 + 1 := by omega
      rw [e, Nat.pow_succ]
      have h2 := mod_half h0 (h.le hi)
      have h3 : 2 * (x % y) * 2 ^ ((i - 1) / 2) ≤ x * 2 ^ ((i - 1) / 2) := Nat.mul_le_mul_right _ h2
      have h4 := h.hx
      have e2 : x % y * (2 ^ ((i - 1) / 2) * 2) = 2 * (x % y) * 2 ^ ((i - 1) / 2) := by
        rw [Nat.mul_comm (2 ^ ((i - 1) / 2)) 2, ← Nat.mul_assoc, Nat.mul_comm (x % y) 2]
      omega
    · have e : i = 0 := by omega
      subst e
      have h4 : y * 2 ^ (0 / 2) ≤ M := h.hy
      have h5 : y * 2 ^ (0 / 2) = y := Nat.mul_one y
      show x % y * 2 ^ ((0 + 1) / 2) ≤ M
      have e2 : x % y * 2 ^ ((0 + 1) / 2) = x % y := Nat.mul_one _
      omega
  · have e : (i + 1 - 1) / 2 = i / 2 := by omega
    rw [e]
    exact h.hy
theorem GI.done {n d x y k : Nat} (h : GI n d (2 ^ k) 40000 x y) (hk : k < 20000) : y = 0 := by
  rcases Nat.eq_zero_or_pos y with z | z
  · exact z
  · have h1 : y * 2 ^ 20000 ≤ 2 ^ k := h.hy
    have h2 : 1 * 2 ^ 20000 ≤ y * 2 ^ 20000 := Nat.mul_le_mul_right _ z
    have h3 : 2 ^ k < 2 ^ 20000 := Nat.pow_lt_pow_right (by decide) hk
    rw [Nat.one_mul] at h2
    exact absurd (Nat.le_trans h2 h1) (Nat.not_le.mpr h3)
theorem abs_nat (i : Int) : (if i < 0 then -i else i) = (i.natAbs : Int) := by split <;> omega
theorem fmod_nat (x y : Nat) : ((x : Int).fmod (y : Int)) = ((x % y : Nat) : Int) := by
  rw [Int.fmod_eq_emod_of_nonneg _ (Int.natCast_nonneg y), Int.natCast_emod]
/-- the divisor with the sign of d -/
def sgcd (n d : Int) : Int := if d < 0 then 0 - (Nat.gcd n.natAbs d.natAbs : Int) else (Nat.gcd n.natAbs d.natAbs : Int)
def lowN (n d : Int) : Int := n.fdiv (sgcd n d)
def lowD (n d : Int) : Int := d.fdiv (sgcd n d)
theorem gcd_pos {n d : Int} (h : d ≠ 0) : 0 < Nat.gcd n.natAbs d.natAbs := Nat.gcd_pos_of_pos_right _ (by omega)
theorem sgcd_ne {n d : Int} (h : d ≠ 0) : sgcd n d ≠ 0 := by
  have := gcd_pos (n := n) h
  unfold sgcd
  split <;> omega
theorem sgcd_le {n d : Int} (h : d ≠ 0) : (sgcd n d).natAbs ≤ d.natAbs := by
  have h1 : Nat.gcd n.natAbs d.natAbs ≤ d.natAbs := Nat.le_of_dvd (by omega) (Nat.gcd_dvd_right _ _)
  unfold sgcd
  split <;> omega
/-- what the lowest terms are -/
structure LowOk (n d N D : Int) : Prop where
  mul : ∃ g : Int, g ≠ 0 ∧ n = g * N ∧ d = g * D
  pos : 0 < D
  one : Nat.gcd N.natAbs D.natAbs = 1
theorem fdiv_mul {g x : Int} (h : g ≠ 0) : (g * x).fdiv g = x := by
  rw [Int.fdiv_eq_ediv_of_dvd (Int.dvd_mul_right g x), Int.mul_ediv_cancel_left _ h]
theorem low_ok {n d : Int} (h : d ≠ 0) : LowOk n d (lowN n d) (lowD n d) := by
  have hg := gcd_pos (n := n) h
  have hs := sgcd_ne (n := n) h
  obtain ⟨a, ha⟩ := Nat.gcd_dvd_left n.natAbs d.natAbs
  obtain ⟨b, hb⟩ := Nat.gcd_dvd_right n.natAbs d.natAbs
  have co : Nat.gcd a b = 1 := by
    have e : Nat.gcd (Nat.gcd n.natAbs d.natAbs * a) (Nat.gcd n.natAbs d.natAbs * b) = Nat.gcd n.natAbs d.natAbs * Nat.gcd a b := Nat.gcd_mul_left _ _ _
    rw [← ha, ← hb] at e
    have e' : Nat.gcd n.natAbs d.natAbs * 1 = Nat.gcd n.natAbs d.natAbs * Nat.gcd a b := by rw [Nat.mul_one]; exact e
    exact (Nat.eq_of_mul_eq_mul_left hg e').symm
  -- both as multiples of the divisor
  have dn : sgcd n d ∣ n := by
    have : ((Nat.gcd n.natAbs d.natAbs : Nat) : Int) ∣ n := Int.ofNat_dvd_left.mpr (Nat.gcd_dvd_left _ _)
    unfold sgcd
    split
    · rw [Int.zero_sub]; exact Int.neg_dvd.mpr this
    · exact this
  have dd : sgcd n d ∣ d := by
    have : ((Nat.gcd n.natAbs d.natAbs : Nat) : Int) ∣ d := Int.ofNat_dvd_left.mpr (Nat.gcd_dvd_right _ _)
    unfold sgcd
    split
    · rw [Int.zero_sub]; exact Int.neg_dvd.mpr this
    · exact this
  obtain ⟨N, hN⟩ := dn
  obtain ⟨D, hD⟩ := dd
  have eN : lowN n d = N := by
    unfold lowN
    rw [show n.fdiv (sgcd n d) = (sgcd n d * N).fdiv (sgcd n d) from congrArg (fun z => Int.fdiv z (sgcd n d)) hN]
    exact fdiv_mul hs
  have eD : lowD n d = D := by
    unfold lowD
    rw [show d.fdiv (sgcd n d) = (sgcd n d * D).fdiv (sgcd n d) from congrArg (fun z => Int.fdiv z (sgcd n d)) hD]
    exact fdiv_mul hs
  have sa : (sgcd n d).natAbs = Nat.gcd n.natAbs d.natAbs := by unfold sgcd; split <;> omega
  have aN : N.natAbs = a := by
    have e := congrArg Int.natAbs hN
    rw [Int.natAbs_mul, sa] at e
    exact Nat.eq_of_mul_eq_mul_left hg (e.symm.trans ha)
  have aD : D.natAbs = b := by
    have e := congrArg Int.natAbs hD
    rw [Int.natAbs_mul, sa] at e
    exact Nat.eq_of_mul_eq_mul_left hg (e.symm.trans hb)
  rw [eN, eD]
  refine ⟨⟨_, hs, hN, hD⟩, ?_, by rw [aN, aD]; exact co⟩
  -- the sign
  have sg : (d < 0 → sgcd n d < 0) ∧ (0 ≤ d → 0 < sgcd n d) := by unfold sgcd; split <;> omega
  by_cases hd : d < 0
  · have s1 := sg.1 hd
    by_cases hp : 0 < D
    · exact hp
    · exfalso
      have : 0 ≤ sgcd n d * D := Int.mul_nonneg_of_nonpos_of_nonpos (by omega) (by omega)
      omega
  · have s1 := sg.2 (by omega)
    by_cases hp : 0 < D
    · exact hp
    · exfalso
      have : sgcd n d * D ≤ 0 := Int.mul_nonpos_of_nonneg_of_nonpos (by omega) (by omega)
      omega
theorem LowOk.leN {n d N D : Int} (h : LowOk n d N D) : N.natAbs ≤ n.natAbs := by
  obtain ⟨⟨g, hg, h1, _⟩, _, _⟩ := h
  rw [h1, Int.natAbs_mul]
  exact Nat.le_mul_of_pos_left _ (by omega)
theorem LowOk.leD {n d N D : Int} (h : LowOk n d N D) : D.natAbs ≤ d.natAbs := by
  obtain ⟨⟨g, hg, _, h1⟩, _, _⟩ := h
  rw [h1, Int.natAbs_mul]
  exact Nat.le_mul_of_pos_left _ (by omega)
/-! ## fractions as values -/
def fracB : List V → Bool
  | [.int n, .int d] => decide (1 ≤ d) && (Nat.gcd n.natAbs d.natAbs == 1)
  | _ => false
/-- x is a value of which is_fraction is b -/
def FV (K : PySem.W.Frag) (H : Hp) (x : V) (b : Bool) : Prop := ∃ n, Ty K H x n ∧ (n = "tuple" → ∃ a xs, x = .ref a ∧ SqT K H a xs ∧ (∀ v ∈ xs, ∃ m, Ty K H v m) ∧ b = fracB xs) ∧ (n ≠ "tuple" → b = false)
theorem Ty.same {K : PySem.W.Frag} {H H' : Hp} (e : Same H H') {v : V} {n : String} (h : Ty K H v n) : Ty K H' v n := by
  cases h with
  | non => exact .non
  | bl b => exact .bl b
  | int i => exact .int i
  | str x => exact .str x
  | tup h => exact .tup (tSame e h)
  | lst h => exact .lst (e.seq h)
theorem FV.same {K : PySem.W.Frag} {H H' : Hp} (e : Same H H') {x : V} {b : Bool} (h : FV K H x b) : FV K H' x b := by
  obtain ⟨n, t, h1, h2⟩ := h
  refine ⟨n, t.same e, fun q => ?_, h2⟩
  obtain ⟨a, xs, e1, e2, e3, e4⟩ := h1 q
  exact ⟨a, xs, e1, tSame e e2, fun v hv => by obtain ⟨m, hm⟩ := e3 v hv; exact ⟨m, hm.same e⟩, e4⟩
theorem FV.tup {K : PySem.W.Frag} {H : Hp} {a : Addr} {xs : List V} (h : SqT K H a xs) (hm : ∀ v ∈ xs, ∃ m, Ty K H v m) : FV K H (.ref a) (fracB xs) :=
  ⟨"tuple", .tup h, fun _ => ⟨a, xs, rfl, h, hm, rfl⟩, fun q => absurd rfl q⟩
theorem FV.ok {K : PySem.W.Frag} {H : Hp} {a : Addr} {n d : Int} (h : SqT K H a [.int n, .int d]) (h1 : 0 < d) (h2 : Nat.gcd n.natAbs d.natAbs = 1) : FV K H (.ref a) true := by
  have e : fracB [.int n, .int d] = true := by
    show (decide (1 ≤ d) && (Nat.gcd n.natAbs d.natAbs == 1)) = true
    rw [h2, decide_eq_true (show 1 ≤ d by omega)]
    rfl
  rw [← e]
  exact FV.tup h two_ints
theorem FV.no {K : PySem.W.Frag} {H : Hp} {v : V} {n : String} (h : Ty K H v n) (hn : n ≠ "tuple") : FV K H v false := ⟨n, h, fun q => absurd q hn, fun _ => rfl⟩
end My
namespace My
open PySem L2
/-- an error of the class at C with this name is raised -/
def Rz (C : Addr) (x : V) (H : Hp) (E : XK) : Prop := ∀ d, H d = none → E (.ref C) (some d) (upd H d (.xd [(("name" : Str), x)]))
theorem pow200 {i : Int} (h : i.natAbs ≤ 2 ^ 200) : i.natAbs < 2 ^ 9000 := Nat.lt_of_le_of_lt h (Nat.pow_lt_pow_right (by decide) (by decide))
end My
namespace My
theorem near_two {n d st : Int} (d0 : 0 < d) (h1 : st * d ≤ n) (h2 : n < (st + 1) * d) : (2 * n + d) / (2 * d) = if 2 * (st + 1) * d ≤ 2 * n + d then st + 1 else st := by
  have e1 : 2 * (st + 1) * d = (st + 1) * (2 * d) := by grind
  have e2 : (st + 2) * (2 * d) = 2 * ((st + 1) * d) + 2 * d := by grind
  have e3 : st * (2 * d) = 2 * (st * d) := by grind
  have e4 : (st + 1) * (2 * d) = 2 * ((st + 1) * d) := by grind
  have p : 0 < 2 * d := by omega
  by_cases q : 2 * (st + 1) * d ≤ 2 * n + d
  · rw [if_pos q]
    have a1 := (Int.le_ediv_iff_mul_le p).mpr (show (st + 1) * (2 * d) ≤ 2 * n + d by omega)
    have a2 := (Int.ediv_lt_iff_lt_mul p).mpr (show 2 * n + d < (st + 2) * (2 * d) by omega)
    omega
  · rw [if_neg q]
    have a1 := (Int.le_ediv_iff_mul_le p).mpr (show st * (2 * d) ≤ 2 * n + d by omega)
    have a2 := (Int.ediv_lt_iff_lt_mul p).mpr (show 2 * n + d < (st + 1) * (2 * d) by omega)
    omega
end My
namespace My
open PySem L2
theorem fracB_ne {xs : List V} (h : xs.length ≠ 2) : fracB xs = false := by
  unfold fracB
  split
  · exact absurd rfl h
  · rfl
end My

namespace My
open PySem L2
/-! ## fractions at an address -/
structure FrAt (K : PySem.W.Frag) (H : Hp) (a : Addr) (n d : Int) : Prop where
  at_ : SqT K H a [.int n, .int d]
  pos : 0 < d
  one : Nat.gcd n.natAbs d.natAbs = 1
  bn : n.natAbs ≤ 2 ^ 67
  bd : d.natAbs ≤ 2 ^ 50
section
variable {K : PySem.W.Frag} {H H' : Hp} {s b p a c D : Addr} {n d m e : Int} {o : HO}
theorem FrAt.same (e : Same H H') (h : FrAt K H a n d) : FrAt K H' a n d := { h with at_ := tSame e h.at_ }
theorem FrAt.but (e : But s H H') (S : Strm H s b) (h : FrAt K H a n d) : FrAt K H' a n d := { h with at_ := tButS e S h.at_ }
theorem FrAt.over (q : H p = none) (h : FrAt K H a n d) : FrAt K (upd H p o) a n d := h.same (same_new q)
theorem FrAt.put (q : ∃ ys, H D = some (.lst ys)) (h : FrAt K H a n d) : FrAt K (upd H D o) a n d := { h with at_ := tAt q h.at_ }
theorem FrAt.fv (h : FrAt K H a n d) : FV K H (.ref a) true := FV.ok h.at_ h.pos h.one
theorem wide {i j : Int} {x y : Nat} (hi : i.natAbs ≤ 2 ^ x) (hj : j.natAbs ≤ 2 ^ y) (h : x + y + 2 ≤ 1000000 := by decide) : CMulW i j :=
  wide_mul (a := x + 1) (b := y + 1) (Nat.lt_of_le_of_lt hi (Nat.pow_lt_pow_right (by decide) (by omega))) (Nat.lt_of_le_of_lt hj (Nat.pow_lt_pow_right (by decide) (by omega))) (by omega) (by omega) (by omega)
theorem mul_le {i j : Int} {x y : Nat} (hi : i.natAbs ≤ 2 ^ x) (hj : j.natAbs ≤ 2 ^ y) : (i * j).natAbs ≤ 2 ^ (x + y) := by
  rw [Int.natAbs_mul, Nat.pow_add]; exact Nat.mul_le_mul hi hj
theorem pow_up {i : Int} {x y : Nat} (h : i.natAbs ≤ 2 ^ x) (hy : x ≤ y := by decide) : i.natAbs ≤ 2 ^ y := Nat.le_trans h (Nat.pow_le_pow_right (by decide) hy)
theorem add_le {i j : Int} {x : Nat} (hi : i.natAbs ≤ 2 ^ x) (hj : j.natAbs ≤ 2 ^ x) : (i + j).natAbs ≤ 2 ^ (x + 1) := by
  have := Int.natAbs_add_le i j
  rw [Nat.pow_succ]; omega
theorem sub_le {i j : Int} {x : Nat} (hi : i.natAbs ≤ 2 ^ x) (hj : j.natAbs ≤ 2 ^ x) : (i - j).natAbs ≤ 2 ^ (x + 1) := by
  have := Int.natAbs_sub_le i j
  rw [Nat.pow_succ]; omega
theorem mul_ne {i j : Int} (hi : 0 < i) (hj : 0 < j) : i * j ≠ 0 := by
  have := Int.mul_pos hi hj; omega
theorem mul_ne' {i j : Int} (hi : 0 < i) (hj : j ≠ 0) : i * j ≠ 0 := Int.mul_ne_zero (by omega) hj
end
/-! ## what a try of the law tells -/
abbrev Rs := (Int × Int) ⊕ Str ⊕ Bool
def TV (K : PySem.W.Frag) (H : Hp) (v : V) : Rs → Prop
  | .inl (a, b) => ∃ p, v = .ref p ∧ SqT K H p [.int a, .int b]
  | .inr (.inl s) => ∃ p, v = .ref p ∧ SqL K H p [.str "refused", .str s]
  | .inr (.inr b) => v = .bl b
theorem TV.same {K : PySem.W.Frag} {H H' : Hp} (e : Same H H') {v : V} {r : Rs} (h : TV K H v r) : TV K H' v r := by
  match r, h with
  | .inl (a, b), ⟨p, e1, h⟩ => exact ⟨p, e1, tSame e h⟩
  | .inr (.inl s), ⟨p, e1, h⟩ => exact ⟨p, e1, e.seq h⟩
  | .inr (.inr b), h => exact h
theorem lAt {K : PySem.W.Frag} {H : Hp} {a D : Addr} {xs : List V} {o : HO} (n : a ≠ D) (h : SqL K H a xs) : SqL K (upd H D o) a xs := by
  rcases h with (h | ⟨o, h⟩) | h
  · exact .inl (.inl (by rw [upd_ne n]; exact h))
  · exact .inl (.inr ⟨o, by rw [upd_ne n]; exact h⟩)
  · exact .inr h
theorem TV.put {K : PySem.W.Frag} {H : Hp} {D : Addr} {o : HO} (q : ∃ ys, H D = some (.lst ys)) {v : V} {r : Rs} (n : v ≠ .ref D) (h : TV K H v r) : TV K (upd H D o) v r := by
  match r, h with
  | .inl (a, b), ⟨p, e1, h⟩ => exact ⟨p, e1, tAt q h⟩
  | .inr (.inl s), ⟨p, e1, h⟩ => exact ⟨p, e1, lAt (fun z => n (by rw [e1, z])) h⟩
  | .inr (.inr b), h => exact h
theorem two_get {α : Type} {P : α → α → Prop} {a b c d : α} (h0 : P a c) (h1 : P b d) : ∀ (i : Nat) u v, [a, b][i]? = some u → [c, d][i]? = some v → P u v := by
  intro i u v hu hv
  rcases (show i = 0 ∨ i = 1 by have := (List.getElem?_eq_some_iff.mp hu).1; simp at this; omega) with rfl | rfl
  · cases hu; cases hv; exact h0
  · cases hu; cases hv; exact h1
theorem TV.dq {K : PySem.W.Frag} {H : Hp} {u v : V} {r : Rs} (h : TV K H u r) (g : TV K H v r) : Dq K H 3 u v := by
  match r, h, g with
  | .inl (a, b), ⟨p, e1, h⟩, ⟨q, e2, g⟩ => rw [e1, e2]; exact .tup h g rfl (Nat.le_of_ble_eq_true rfl) (two_get (.int 1 _) (.int 1 _))
  | .inr (.inl s), ⟨p, e1, h⟩, ⟨q, e2, g⟩ => rw [e1, e2]; exact .lst h g rfl (Nat.le_of_ble_eq_true rfl) (two_get (.str 1 _) (.str 1 _))
  | .inr (.inr b), h, g =>
    have h : u = .bl b := h
    have g : v = .bl b := g
    rw [h, g]; exact .bl 2 b
/-- what the five give -/
def res (i : Int) (n d m e : Int) : Rs :=
  if i = 0 then .inl (lowN (n * e + m * d) (d * e), lowD (n * e + m * d) (d * e))
  else if i = 1 then .inl (lowN (n * e - m * d) (d * e), lowD (n * e - m * d) (d * e))
  else if i = 2 then .inl (lowN (n * m) (d * e), lowD (n * m) (d * e))
  else if i = 3 then (if m = 0 then .inr (.inl "second") else .inl (lowN (n * e) (d * m), lowD (n * e) (d * m)))
  else .inr (.inr (decide (n * e < m * d)))
end My
namespace My
open PySem L2
/-- a divisor: an int other than 0 -/
def okD : V → Bool
  | .int i => decide (i ≠ 0)
  | _ => false
theorem log_lt {i : Int} (h : i.natAbs ≤ 2 ^ 73) : i.natAbs.log2 < 1920 := by
  by_cases z : i.natAbs = 0
  · rw [z]; decide
  · exact (Nat.log2_lt z).mpr (Nat.lt_of_le_of_lt h (Nat.pow_lt_pow_right (by decide) (by decide)))
end My
namespace PySem
namespace BvX
open PySem.W PySem.Calls PyProof.Rows PySem.HandSPX
/-! ### the text of __init__ -/
def iA (p1 p2 : Pos) : Arguments := { posonlyargs := [], args := [{ arg := "self", annotation := none, pos := p1 }, { arg := "name", annotation := none, pos := p2 }], vararg := none, kwonlyargs := [], kw_defaults := [], kwarg := none, defaults := [] }
def iB (q1 q2 q3 q4 : Pos) : List Stmt := [.Assign [.Attribute (.Name "self" q1) "name" q2] (.Name "name" q3) q4]
def iS : Scope := { kind := .function, names := [(PySem.Str.ofString "self", .local), (PySem.Str.ofString "name", .local)], isGenerator := false, isCoroutine := false, more := [] }
/-- what the written part says of Low, at C, and of its __init__, at fI -/
structure BvTxt (K : Frag) (mg : Str → Option Value) (C fI : Addr) : Prop where
  gC : mg "BadValue" = some (.ref C)
  cls : ∃ nm q N bs bm sn sub ab col dd k0 k1 k2 k3 k5, K.lookup C = some (excClassObj nm q C N bs bm true sn sub ab col dd k0 k1 k2 k3 k5 "ValueError.__new__") ∧ refsVE bm = true
  sa : findIn K (.ref C) "__setattr__" = some (some (.builtin "object.__setattr__"))
  ga : findIn K (.ref C) "__getattribute__" = some (some (.builtin "BaseException.__getattribute__"))
  gg : findIn K (.ref C) "__getattr__" = some none
  noN : findIn K (.ref C) "name" = some none
  iC : findIn K (.ref C) "__init__" = some (some (.ref fI))
  tC : typeIn K (.ref fI) = some (.type "function")
  kC : keepIn K (.ref C) = true
  exC : subIn K (.ref C) (.type "BaseException") = some true
  tyC : typeIn K (.ref C) = some (.type "type")
  hdC : hasDictIn K C = true
  te : exmOne K (.ref C) (.ref C) = some true
  fn : ∃ (oc : Value) (od : Option Addr) (doc pm : Value) (an : Option Addr) (cdv ct : Value) (osl : Array (Option Value)) (p1 p2 q1 q2 q3 q4 : Pos),
    K.lookup fI = some ⟨oc, od, .func (fnOf "__init__" "BadValue.__init__" (iA p1 p2) (iB q1 q2 q3 q4) iS .none .none doc pm an cdv ct), osl⟩ ∧ codeIn K cdv "BadValue.__init__" = true
theorem one_size (v : Value) : [v].length ≤ sizeLine := by
  rw [sizeLine_eq]
  exact (by decide : 1 ≤ 16777216)
theorem kept_but {K : Frag} {h h' : Heap} {x : Addr} (X : K.In h) (hx : K.lookup x = none) (k : ∀ b o, b ≠ x → h.get? b = some o → h'.get? b = some o) : K.In h' := fun a o e =>
  k a o (fun z => by rw [z, hx] at e; cases e) (X a o e)
theorem ldC {M : Model} {s : Shared} {name : Str} {scope : Scope} {L a : Addr} {cd : Value} {m : Str → Option Value} {x : Str} {pos : Pos} {v : Value} {Q : Value → Shared → Prop} {A : Around} {E : Value → Shared → Prop} (hn : s.heap.Ns L m) (hv : m x = some v) (h : Q v s)
    (hk : scope.kind = .function := by rfl) (hl : (envOfC name scope L a cd).kindOf x = some .local := by rfl) (hd : (x == ("__debug__" : Str)) = false := by decide) :
    wpAny M A (eval (.Name x pos) (envOfC name scope L a cd)) Q E s := wpAny_Name (wpAny_loadName_local hk hl hn hv h) hd
/-- what __init__ leaves of a fresh exception at x -/
structure InitEnd (h h' : Heap) (x C dx t1 : Addr) (v : Value) : Prop where
  keep : ∀ b o, b ≠ x → h.get? b = some o → h'.get? b = some o
  obj : h'.get? x = some { cls := .ref C, dict := some dx, data := .fields #[.ref t1, .none, .none, .none, .bool false, .none] }
  dbig : h.objs.size ≤ dx
  dne : dx ≠ x
  ns : h'.Ns1 dx (fun y => if y = "name" then some v else none)
/-- a made Low -/
structure OwnMade (h h' : Heap) (e C d : Addr) (v : Value) : Prop where
  keep : ∀ b o, h.get? b = some o → h'.get? b = some o
  new : h.objs.size ≤ e
  obj : ∃ oe vs, h'.get? e = some oe ∧ oe.cls = .ref C ∧ oe.dict = some d ∧ oe.data = .fields vs ∧ vs[1]? = some .none
  dbig : h.objs.size ≤ d
  dne : d ≠ e
  ns : h'.Ns1 d (fun y => if y = "name" then some v else none)
section
variable {prog : Program} {w : World} {A : Around} {E : Value → Shared → Prop} {R : Result → Shared → Prop} {s : Shared} {K : Frag} {mg : Str → Option Value} {C fI : Addr}
theorem bv_init (T : BvTxt K mg C fI) {x t0 : Addr} {v : Value} (X : K.In s.heap) (hlim : s.heap.NoLimit) (hx : s.heap.get? x = some (excO C t0)) (hnx : K.lookup x = none) (hroom : A.depth < recursionLimit)
    (hq : ∀ h' tk dx, InitEnd s.heap h' x C dx t0 v → R (.ok (.ret .none)) { s with heap := h', toks := tk }) :
    codeAny (model prog w) A (.call (.ref fI) ⟨[.ref x, v], []⟩) R s := by
  obtain ⟨oc, od, doc, pm, an, cdv, ct, osl, p1, p2, q1, q2, q3, q4, ho, hcd⟩ := T.fn
  obtain ⟨nm, q, N, bs, bm, sn, sub, ab, col, dd, k0, k1, k2, k3, k5, hC, hbm⟩ := T.cls
  have hcl : clsIn K C = some { name := nm, bases := bs, mro := .ref C :: bm, ns := N, qualname := q, hasDict := true, slotNames := sn, subclasses := sub, abstract := ab, collection := col, hasDel := false } := by unfold clsIn; rw [hC] <;> rfl
  refine Att.call_fn (binds := [("self", .ref x), ("name", v)]) X hlim ho hcd hroom (BindsTo.of_eq (by first | rfl | with_unfolding_all rfl)) (by first | rfl | decide | with_unfolding_all rfl) (fun s₁ IC => ?_) rfl rfl rfl
  obtain ⟨h₁, tk₁, rfl⟩ := IC.toInCall.same
  have k : ∀ b o, s.heap.get? b = some o → h₁.get? b = some o := IC.toInCall.keep
  have hn := IC.toInCall.ns
  have hxL : s.heap.objs.size ≠ x := Nat.ne_of_gt (Heap.lt_size hx)
  have X₁ : K.In h₁ := X.keeps k
  have hx₁ := k _ _ hx
  -- self.by = by
  show wpAny _ _ (execs _ _) _ _ _
  refine wpAny_execs_cons (plainObj_wpAny_Assign_Attribute ?_)
  refine ldC (v := v) hn (by first | rfl | with_unfolding_all rfl | kernel_rfl) (ldC (v := .ref x) hn (by first | rfl | with_unfolding_all rfl | kernel_rfl) ?_)
  refine set_plain X₁ (ox := excO C t0) (od := none) ⟨hx₁, rfl, rfl, trivial⟩ T.sa ?_
  refine exc_osa X₁ hx₁ hcl (show refsVE (.ref C :: bm) = true from hbm) rfl T.noN (fun h₃ tk₃ dx k₃ dn dne hx₃ hn₃ => ?_)
  show wpAny _ _ (execs _ _) _ _ _
  have z : s.heap.objs.size < h₁.objs.size := hn.lt
  exact wpAny_execs_nil (hq h₃ tk₃ dx ⟨fun b o hb e => k₃ b o hb (k b o e), hx₃, Nat.le_of_lt (Nat.lt_of_lt_of_le z dn), dne, hn₃⟩)
theorem bv_made (T : BvTxt K mg C fI) {v : Value} (X : K.In s.heap) (hlim : s.heap.NoLimit) (hroom : A.depth + 1 < recursionLimit)
    (hq : ∀ h' tk e d, OwnMade s.heap h' e C d v → R (.ok (.ret (.ref e))) { s with heap := h', toks := tk }) :
    codeAny (model prog w) A (.call (.ref C) ⟨[v], []⟩) R s := by
  obtain ⟨nm, q, N, bs, bm, sn, sub, ab, col, dd, k0, k1, k2, k3, k5, hC, hbm⟩ := T.cls
  obtain ⟨hp, g, dr, tk, os⟩ := s
  have k : ∀ b o, hp.get? b = some o → ((hp.push (kdv_tup [v])).push (excO C hp.objs.size)).get? b = some o := fun b o e => Heap.get?_push_of_some _ (Heap.get?_push_of_some _ e)
  have hget : ((hp.push (kdv_tup [v])).push (excO C hp.objs.size)).get? (hp.objs.size + 1) = some (excO C hp.objs.size) := by heap_get
  have hnx : K.lookup (hp.objs.size + 1) = none := by
    cases e : K.lookup (hp.objs.size + 1) with
    | none => rfl
    | some o =>
      have z : hp.get? (hp.objs.size + 1) = some o := X _ _ e
      exact absurd (Nat.lt_of_succ_lt (Heap.lt_size z)) (Nat.lt_irrefl _)
  refine call_own F.excBase_ValueError (fun X => refsVE_contains X bm hbm) (X _ _ hC) (looks_findIn X T.iC) (fun self => bind_fn X self T.tC) (one_size v) ?_
  refine bv_init (s := ⟨(hp.push (kdv_tup [v])).push (excO C hp.objs.size), g, dr, tk, os⟩) T (X.keeps k) (hlim.keeps k) hget hnx ?_ fun h' tk' dx ⟨k', hx, dn, dne, hns⟩ => ?_
  · show A.depth + 1 < recursionLimit
    exact hroom
  · have old : ∀ b o, hp.get? b = some o → h'.get? b = some o := fun b o e => k' b o (Nat.ne_of_lt (Nat.lt_succ_of_lt (Heap.lt_size e))) (k b o e)
    have z : hp.objs.size + 1 + 1 ≤ dx := by
      first
        | (simpa only [Heap.size_push] using dn)
        | exact dn
        | (have q := dn; rw [Heap.size_push, Heap.size_push] at q; exact q)
    exact ⟨rfl, hq h' tk' (hp.objs.size + 1) dx ⟨old, Nat.le_succ _, ⟨_, _, hx, rfl, rfl, rfl, rfl⟩, Nat.le_trans (Nat.le_trans (Nat.le_succ _) (Nat.le_succ _)) z, dne, hns⟩⟩
end
end BvX
end PySem
namespace L2
open PySem PySem.Spec PyProof.Rows
theorem relO_bv {v : V} {v' : Value} (r : RelV v v') (f : Str) : RelO (List.lookup f [(("name" : Str), v)]) (if f = "name" then some v' else none) := by
  by_cases hw : f = "name"
  · subst hw
    rw [if_pos rfl]
    have q : List.lookup ("name" : Str) [(("name" : Str), v)] = some v := by simp [List.lookup]
    rw [q]
    exact r
  · rw [if_neg hw]
    have qw : (f == ("name" : Str)) = false := by simpa using hw
    have q2 : List.lookup f [(("name" : Str), v)] = none := by simp [List.lookup, qw]
    rw [q2]
    trivial
section
variable {X : Cx} {C fI : Addr}
/-- Low(e) -/
def tMkBv (C : Addr) (ta : TA) : St → Hp → XK → Prop := fun σ H Q => ta σ H fun vs H1 => ∃ v, vs = [v] ∧ ∀ d, H1 d = none → Q (.ref C) (some d) (upd H1 d (.xd [(("name" : Str), v)]))
theorem pmk_bv {a : Expr} {ta : TA} {p pos : Pos} {k : Nat} (T : PySem.BvX.BvTxt X.K X.mg C fI) (hr : Room k X.A) (ha : PA X [a] ta) (hg : Gl X "BadValue" := by rfl)
    (he : starEach (a :: []) X.env = (false, eval a X.env) :: starEach [] X.env := by rfl) (hpl : (backTo pos (starEach [] X.env)).any (·.1) = false := by rfl) :
    PMk X (.Call (.Name "BadValue" p) [a] [] pos) (tMkBv C ta) := by
  intro pins s σ H Q I h
  refine wpAny_Call_Name_kw (ld_glob I hg T.gC ?_)
  refine PySem.W.callWith_K (h₀ := X.base) I.ok.mod.kin T.kC (thn (ha.run pos pins s σ H _ I h) fun us s1 hh => ?_) he hpl
  obtain ⟨vs, H1, I1, r1, v, ev, q1⟩ := hh
  subst ev
  refine ⟨I1.kIn, ?_⟩
  cases r1 with
  | cons rv rn =>
    rename_i v' us'
    cases rn
    show wpAny _ _ (call (.ref C) [v']) _ _ _
    have hlim := I1.nolimit
    obtain ⟨hp, g, dr, tk, os⟩ := s1
    refine wpAny_call (PySem.BvX.bv_made T I1.kIn hlim (by have := hr.dp; omega) fun h' tk' e d M => ?_)
    show MkP X pins σ Q (.ref e) ⟨h', g, dr, tk', os⟩
    obtain ⟨oe, fv, hoe, hc, hd, hdat, h1⟩ := M.obj
    have hns := M.ns
    obtain ⟨G', g1, g2⟩ := restrict h' fun b => decide (b ≠ e)
    have gk : ∀ b, b ≠ e → G'.get? b = h'.get? b := fun b hb => g1 b (decide_eq_true hb)
    have ge : G'.get? e = none := g2 e (by simp)
    have old : ∀ b o, hp.get? b = some o → G'.get? b = some o := fun b o q => (gk b (Nat.ne_of_lt (Nat.lt_of_lt_of_le (Heap.lt_size q) M.new))).trans (M.keep b o q)
    have ob : ObjOk X.prog X.w (upd H1 d (.xd [(("name" : Str), v)])) G' d (.xd [(("name" : Str), v)]) :=
      ⟨_, hns.at (fun o q => (gk d M.dne).trans q), fun f => relO_bv rv f⟩
    have J : Inv X pins σ (upd H1 d (.xd [(("name" : Str), v)])) ⟨G', g, dr, tk', os⟩ := I1.laid (t' := tk') old M.dbig ob
    refine ⟨e, oe, fv, ⟨G', g, dr, tk', os⟩, _, .ref C, some d, rfl, J, fun b o q => ?_, ge, hoe, ⟨hc, hd⟩, hdat, h1, ?_, rfl, I1.bare, raises_own T.exC T.tyC, q1 d (I1.hok.fresh M.dbig)⟩
    · by_cases hb : b = e
      · have q' : G'.get? b = some o := q
        rw [hb, ge] at q'; cases q'
      · exact (gk b hb).symm.trans q
    · rw [upd_ne (Ne.symm M.dne)]
      exact I1.hok.fresh M.new
/-- raise Low(e) -/
def tRaiseBv (C : Addr) (W : WX) (ta : TA) : TS := fun _ σ H => tMkBv C ta σ H fun cls d H' => W cls d σ H'
theorem ps_raiseBV {a : Expr} {ta : TA} {W : WX} {p pos pos2 : Pos} {k : Nat} (hc : X.calm = true) (T : PySem.BvX.BvTxt X.K X.mg C fI) (hr : Room k X.A) (tk : Takes X W) (ha : PA X [a] ta) (hg : Gl X "BadValue" := by rfl)
    (he : starEach (a :: []) X.env = (false, eval a X.env) :: starEach [] X.env := by rfl) (hpl : (backTo pos (starEach [] X.env)).any (·.1) = false := by rfl) :
    PS X (.Raise (some (.Call (.Name "BadValue" p) [a] [] pos)) none pos2) (tRaiseBv C W ta) := ps_raise hc tk (pmk_bv T hr ha hg he hpl)
/-- low.by, low the exception that the suite holds (at a; its class cls, its dict d) -/
def tByBv (C : Addr) (a : Addr) (cls : Value) (d : Option Addr) (te : TE) : TE := fun σ H Q => te σ H fun x H1 => x = .ref a ∧ cls = .ref C ∧ ∃ (dd : Addr) (v : V), d = some dd ∧ H1 dd = some (.xd [(("name" : Str), v)]) ∧ Q v H1
theorem pe_byBv {a : Addr} {oe : Obj} {cls : Value} {d : Option Addr} {pn : List (Addr × Obj)} {e : Expr} {te : TE} {pos : Pos} (T : PySem.BvX.BvTxt X.K X.mg C fI) (hz : Zc cls d oe) (hf : ∃ vs, oe.data = .fields vs) (he : PE (X.suite a ((a, oe) :: pn)) e te)
    (hb : attributeBase e "name" X.env (eval e X.env) = eval e X.env := by rfl) :
    PE (X.suite a ((a, oe) :: pn)) (.Attribute e "name" pos) (tByBv C a cls d te) := by
  refine ⟨fun pins s σ H Q I h => ?_⟩
  refine attr_of hb (thn (he.run pins s σ H _ I h) fun u s1 hh => ?_)
  obtain ⟨x, H1, I1, rx, ex, ec, dd, v, ed, ea, q⟩ := hh
  subst ex
  obtain rfl : u = Value.ref a := rx
  subst ec
  subst ed
  obtain ⟨ha, _⟩ := I1.pin (a, oe) (List.mem_append_left _ List.mem_cons_self)
  obtain ⟨vs, hd⟩ := hf
  have hx : ObjOk X.prog X.w H1 s1.heap dd (.xd [(("name" : Str), v)]) := I1.hok dd _ ea
  obtain ⟨mA, hns, hr⟩ := hx
  obtain ⟨od, ho, hl⟩ := lookIn_ns hns
  have l : List.lookup ("name" : Str) [(("name" : Str), v)] = some v := by simp [List.lookup]
  obtain ⟨u, hu, ru⟩ := RelO.some_of (v := v) (o := mA "name") (by rw [← l]; exact hr "name")
  have J : PySem.W.InstAt s1.heap a oe C (some od) := ⟨ha, hz.1, by unfold PySem.W.notCls; rw [hd] <;> rfl, by rw [hz.2]; exact ho⟩
  exact HandSPX.exc_get I1.kIn J T.ga T.gg T.exC (PySem.W.findObj_own T.hdC T.noN rfl (by rw [hl, hu])) (handed_of ru) ⟨v, H1, I1.tok _, ru, q⟩
end
end L2

namespace L2
open PySem PySem.Spec PyProof.Rows
/-- an if whose test is known -/
theorem if_true_of {c : Bool} {A B : Prop} (hc : c = true) (h : A) : if c = true then A else B := by
  rw [if_pos hc]
  exact h
theorem if_false_of {c : Bool} {A B : Prop} (hc : c = false) (h : B) : if c = true then A else B := by
  rw [hc, if_neg Bool.false_ne_true]
  exact h
end L2
namespace My
open PySem L2
/-- an error of the class at S is what «except S» names -/
theorem exm_self {K : PySem.W.Frag} {S : Addr} (h1 : PySem.W.subIn K (.ref S) (.type "BaseException") = some true) (h2 : PySem.W.isClsIn K S = true) (h3 : PySem.W.typeIn K (.ref S) = some (.type "type")) (h4 : PySem.W.subIn K (.ref S) (.ref S) = some true) :
    PySem.W.exmOne K (.ref S) (.ref S) = some true := by
  have e1 : (PySem.W.subIn K (.ref S) (.type "BaseException") == some true) = true := by rw [h1] <;> rfl
  have e2 : ((PySem.W.clsIn K S).isSome && PySem.W.typeIn K (.ref S) == some (.type "type")) = true := by
    have h2' : (PySem.W.clsIn K S).isSome = true := h2
    rw [h2', h3] <;> rfl
  show (if (PySem.W.subIn K (.ref S) (.type "BaseException") == some true) = true then (if ((PySem.W.clsIn K S).isSome && PySem.W.typeIn K (.ref S) == some (.type "type")) = true then PySem.W.subIn K (.ref S) (.ref S) else none) else none) = some true
  rw [if_pos e1, if_pos e2]
  exact h4
end My
namespace L2
open PySem PySem.Spec PyProof.Rows
/-- what more the class must say for isinstance -/
structure BvMore (K : PySem.W.Frag) (C : Addr) : Prop where
  hcl : (PySem.W.clsIn K C).isSome = true
  ha : PySem.W.findIn K (.ref C) "__class__" = some (some (.builtin "object.__class__"))
  hn : PySem.W.specialIn K (.builtin "object.__class__") "__get__" = some (some (.builtin "getset_descriptor.__get__"))
  ht : PySem.W.takesIn K (.builtin "object.__class__") = some true
  hm : PySem.W.mroIn K C (.type "object") = some true
/-- isinstance(e, c), e the error that the suite holds, with its own dict -/
def rIsX (K : PySem.W.Frag) (C a : Addr) (cls : Value) (d : Option Addr) : List V → Hp → VK → Prop := fun xs H Q =>
  ∃ (c : V) (cv : Value) (b : Bool) (dd : Addr) (fs : List (Str × V)), xs = [.ref a, c] ∧ ClsV c cv ∧ cls = .ref C ∧ d = some dd ∧ H dd = some (.xd fs) ∧ PySem.W.kitOne K (.ref C) cv = some b ∧ Q (.bl b) H
theorem call_isX {X : Cx} {a C fI : Addr} {oe : Obj} {cls : Value} {d : Option Addr} {pn : List (Addr × Obj)} (T : PySem.BvX.BvTxt X.K X.mg C fI) (M : BvMore X.K C) (hz : Zc cls d oe) (hf : ∃ vs, oe.data = .fields vs) :
    CallR (X.suite a ((a, oe) :: pn)) (.builtin "isinstance") (rIsX X.K C a cls d) := by
  intro pins s σ H xs us Q I r h
  obtain ⟨c, cv, b, dd, fs, rfl, hc, rfl, rfl, hd, e, q⟩ := h
  obtain ⟨u, v, rfl, ru, rv⟩ := vals2 r
  obtain rfl : u = Value.ref a := ru
  obtain rfl := hc.eq rv
  have pin := (I.pin (a, oe) (List.mem_append_left _ List.mem_cons_self)).1
  obtain ⟨mA, hns, _⟩ := (show ObjOk X.prog X.w H s.heap dd (.xd fs) from I.hok dd _ hd)
  obtain ⟨od, ho, _⟩ := lookIn_ns hns
  obtain ⟨vs, hv⟩ := hf
  have J : PySem.W.InstAt s.heap a oe C (some od) := ⟨pin, hz.1, by unfold PySem.W.notCls; rw [hv] <;> rfl, by rw [hz.2]; exact ho⟩
  exact PySem.W.kia_one (PySem.W.kitx_exc M.hcl T.ga T.gg T.exC M.ha M.hn M.ht M.hm) I.kIn J e (fun z => nomatch z) fun tk => ⟨.bl b, H, I.tok tk, rfl, q⟩
end L2
namespace My
open PySem
theorem kit_ref {K : PySem.W.Frag} {C M : Addr} (h1 : PySem.W.isClsIn K M = true) (h2 : PySem.W.typeIn K (.ref M) = some (.type "type")) (h3 : PySem.W.subIn K (.ref C) (.ref M) = some true) : PySem.W.kitOne K (.ref C) (.ref M) = some true := by
  unfold PySem.W.kitOne
  split
  · rfl
  · have h1 : (PySem.W.clsIn K M).isSome = true := h1
    show (if ((PySem.W.clsIn K M).isSome && PySem.W.typeIn K (.ref M) == some (.type "type")) = true then _ else _) = _
    rw [h1, h2]
    exact h3
theorem kit_VE {K : PySem.W.Frag} {C : Addr} (h3 : PySem.W.subIn K (.ref C) (.type "ValueError") = some true) : PySem.W.kitOne K (.ref C) (.type "ValueError") = some true := by
  unfold PySem.W.kitOne
  split
  · rfl
  · show (if PySem.W.kitMeta "ValueError" = true then PySem.W.subIn K (.ref C) (.type "ValueError") else none) = some true
    rw [if_pos (by decide +kernel)]
    exact h3
end My
namespace PySem
namespace Gx
open PySem.W PySem.Calls PyProof.Rows
section
variable {prog : Program} {w : World} {A : Around} {R : Result → Shared → Prop} {I : Addr}
/-- all's loop: m bounds the turns that are left -/
theorem all_loop (W : Nat → Shared → Prop) (step : ∀ m s, W m s → wpAny (model prog w) A.in1 (pyNext (.ref I)) (fun r s' => match r with
    | none => R (.ok (.ret (.bool true))) s'
    | some v => ∃ b, v = .bool b ∧ if b = true then ∃ m', m' < m ∧ W m' s' else R (.ok (.ret (.bool false))) s') (fun e s' => R (.error e) s') s) :
    ∀ (m : Nat) (s : Shared), W m s → codeAny (model prog w) A (.builtin "all.loop" ⟨[.ref I], []⟩) R s := by
  intro m
  induction m using Nat.strongRecOn with
  | ind m ih =>
    intro s hW
    refine codeAny_builtin F.entry_all_loop ?_
    rw [Around.under_plainId F.plain_all_loop _]
    show wpAny _ A.in1 (pyNext (.ref I) >>= _) _ _ s
    refine wpAny_bind (wpAny_mono (step m s hW) (fun r s' h => ?_) fun _ _ e => e)
    cases r with
    | none => exact wpAny_bind (wpAny_rule (wpAny_pure h))
    | some v =>
      obtain ⟨b, rfl, h⟩ := h
      refine wpAny_bind (wpAny_holding (wpAny_truthy_bool ?_))
      refine wpAny_bind (wpAny_letGo ?_)
      cases b with
      | true =>
        simp only [if_true] at h ⊢
        obtain ⟨m', hm, hW'⟩ := h
        exact wpAny_pure ⟨plainId_quiet F.plain_all_loop _, ih m' hm s' hW'⟩
      | false =>
        simp only [Bool.false_eq_true, if_false] at h ⊢
        exact wpAny_bind (wpAny_rule (wpAny_pure h))
theorem any_loop (W : Nat → Shared → Prop) (step : ∀ m s, W m s → wpAny (model prog w) A.in1 (pyNext (.ref I)) (fun r s' => match r with
    | none => R (.ok (.ret (.bool false))) s'
    | some v => ∃ b, v = .bool b ∧ if b = true then R (.ok (.ret (.bool true))) s' else ∃ m', m' < m ∧ W m' s') (fun e s' => R (.error e) s') s) :
    ∀ (m : Nat) (s : Shared), W m s → codeAny (model prog w) A (.builtin "any.loop" ⟨[.ref I], []⟩) R s := by
  intro m
  induction m using Nat.strongRecOn with
  | ind m ih =>
    intro s hW
    refine codeAny_builtin F.entry_any_loop ?_
    rw [Around.under_plainId F.plain_any_loop _]
    show wpAny _ A.in1 (pyNext (.ref I) >>= _) _ _ s
    refine wpAny_bind (wpAny_mono (step m s hW) (fun r s' h => ?_) fun _ _ e => e)
    cases r with
    | none => exact wpAny_bind (wpAny_rule (wpAny_pure h))
    | some v =>
      obtain ⟨b, rfl, h⟩ := h
      refine wpAny_bind (wpAny_holding (wpAny_truthy_bool ?_))
      refine wpAny_bind (wpAny_letGo ?_)
      cases b with
      | true =>
        simp only [if_true] at h ⊢
        exact wpAny_bind (wpAny_rule (wpAny_pure h))
      | false =>
        simp only [Bool.false_eq_true, if_false] at h ⊢
        obtain ⟨m', hm, hW'⟩ := h
        exact wpAny_pure ⟨plainId_quiet F.plain_any_loop _, ih m' hm s' hW'⟩
end
/-! ### the generator's side -/
/-- while the generator sleeps: the heap stands, the table of generators stays bare -/
structure Sl (s s' : Shared) : Prop where
  os : s'.os = s.os
  bare : AllBare s'.gens
  heap : s'.heap = s.heap
/-- a value is handed out: C of it; then on, if it is one that lets the consumer go on -/
def Yx (Sr : Value → Shared → Shared → Prop) (C : Shared → Value → Shared → Prop) (Go : Value → Prop) : Protocol := fun _ s₀ v s kap => C s₀ v s ∧ (Go v → ∀ s', Sr v s s' → kap (.send .none) s')
def Rx (Dn : Shared → Shared → Prop) : GenEnd := fun _ s₀ r s => r = .ok .next ∧ Dn s₀ s
section
variable {prog : Program} {w : World} {A : Around}
theorem seg_loop {elt tg iter : Expr} {ifs : List Expr} {scope : Scope} {pos : Pos} {I : Addr} {cenv : Env} {Sr : Value → Shared → Shared → Prop} {C : Shared → Value → Shared → Prop} {Go : Value → Prop} {Dn : Shared → Shared → Prop} {B : Around}
    (hB : A.over (.compLoop (.GeneratorExp elt [⟨tg, iter, ifs, 0⟩] scope pos) 0 (.ref I) .none cenv) [] = B) (hco : cenv.scope.isCoroutine = false) (W : Nat → Shared → Shared → Prop)
    (turn : ∀ m s₀ s, W m s₀ s → wpAny (model prog w) B (pyNext (.ref I)) (fun r s1 => match r with
      | none => Dn s₀ s1
      | some v => wpAny (model prog w) B (letOwnedTupleGo tg (.ref I) v) (fun _ s1' => wpAny (model prog w) B (assign tg cenv v) (fun _ s2 => wpAny (model prog w) B (forIn ifs true fun c r => if r = true then do let ok ← isTrue c cenv (eval c cenv); pure (ForInStep.yield ok) else pure (ForInStep.yield r)) (fun ok s3 =>
          if ok = true then wpAny (model prog w) B (eval elt cenv) (fun y s4 => C s₀ y s4 ∧ (Go y → ∃ m', m' < m ∧ ∀ s', Sr y s4 s' → W m' s' s')) (fun _ _ => False) s3 else ∃ m', m' < m ∧ W m' s₀ s3) (fun _ _ => False) s2) (fun _ _ => False) s1') (fun _ _ => False) s1) (fun _ _ => False) s) :
    ∀ (m n : Nat) (s₀ s : Shared), m < n → W m s₀ s → Seg (model prog w) A (Rx Dn) (Yx Sr C Go) n s₀
      (.compLoop (.GeneratorExp elt [⟨tg, iter, ifs, 0⟩] scope pos) 0 (.ref I) .none cenv)
      ((model prog w).den (.compLoop (.GeneratorExp elt [⟨tg, iter, ifs, 0⟩] scope pos) 0 (.ref I) .none cenv)) [] s := by
  subst hB
  intro m
  induction m using Nat.strongRecOn with
  | ind m ih =>
    intro n s₀ s hn hW
    show Seg _ A _ _ _ s₀ _ ((compTurn (.GeneratorExp elt [⟨tg, iter, ifs, 0⟩] scope pos) 0 (.ref I) .none cenv).onRaise (leaving cenv)) [] s
    rw [compTurn_gen, Sem.onRaise_eq_wrap]
    refine seg_bind_wrap (wpAny_standAt ?_)
    refine seg_bind_wrap (wpAny_mono (turn m s₀ s hW) (fun r s1 h => ?_) fun _ _ e => e.elim)
    cases r with
    | none => exact seg_end (.ok .next) ⟨rfl, h⟩
    | some v =>
      refine seg_bind_wrap (wpAny_mono h (fun _ s1' h => ?_) fun _ _ e => e.elim)
      refine seg_bind_wrap (wpAny_mono h (fun _ s2 h => ?_) fun _ _ e => e.elim)
      refine seg_bind_wrap (wpAny_mono h (fun ok s3 h => ?_) fun _ _ e => e.elim)
      cases ok with
      | false =>
        simp only [Bool.false_eq_true, if_false] at h ⊢
        obtain ⟨m', hm, hW'⟩ := h
        exact seg_again rfl (ih m' hm n s₀ s3 (by omega) hW')
      | true =>
        simp only [if_true] at h ⊢
        have hy : ∀ v, yieldOut cenv v = yieldValue v := fun v => by simp only [yieldOut, hco, Bool.false_eq_true, if_false]
        simp only [hy]
        rw [Sem.bind_eq_wrap', Sem.bind_eq_wrap', Sem.wrap_wrap, Sem.wrap_wrap]
        refine seg_wrap (wpAny_mono h (fun y s4 h => ?_) fun _ _ e => e.elim)
        obtain ⟨hC, hgo⟩ := h
        obtain ⟨n', rfl⟩ : ∃ n', n = n' + 1 := ⟨n - 1, by omega⟩
        refine seg_at (seg_yield rfl rfl rfl ⟨hC, fun gy s'' hs => ?_⟩)
        obtain ⟨m', hm, hW'⟩ := hgo gy
        exact seg_again rfl (ih m' hm n' s'' s'' (by omega) (hW' s'' hs))
/-- from its beginning -/
theorem seg_start {elt tg iter : Expr} {ifs : List Expr} {scope : Scope} {pos : Pos} {I : Addr} {cenv : Env} {Sr : Value → Shared → Shared → Prop} {C : Shared → Value → Shared → Prop} {Go : Value → Prop} {Dn : Shared → Shared → Prop} {n : Nat} {s₀ s : Shared}
    (self : ∀ (B : Around) (Q : Value → Shared → Prop) (E : Value → Shared → Prop), Q (.ref I) s → wpAny (model prog w) B (pyIter (.ref I)) Q E s)
    (loop : Seg (model prog w) A (Rx Dn) (Yx Sr C Go) n s₀ (.compLoop (.GeneratorExp elt [⟨tg, iter, ifs, 0⟩] scope pos) 0 (.ref I) .none cenv)
      ((model prog w).den (.compLoop (.GeneratorExp elt [⟨tg, iter, ifs, 0⟩] scope pos) 0 (.ref I) .none cenv)) [] s) :
    Seg (model prog w) A (Rx Dn) (Yx Sr C Go) n s₀ (.compStart (.GeneratorExp elt [⟨tg, iter, ifs, 0⟩] scope pos) 0 (.ref I) .none cenv)
      ((model prog w).den (.compStart (.GeneratorExp elt [⟨tg, iter, ifs, 0⟩] scope pos) 0 (.ref I) .none cenv)) [] s := by
  show Seg _ A _ _ _ s₀ _ ((compStart (.GeneratorExp elt [⟨tg, iter, ifs, 0⟩] scope pos) 0 (.ref I) .none cenv).onRaise (leaving cenv)) [] s
  unfold compStart
  rw [Sem.onRaise_eq_wrap]
  show Seg _ A _ _ _ s₀ _ ((ask >>= _).wrap _ _ _ _) [] s
  refine seg_bind_wrap (wpAny_askSetting ?_)
  split
  · exact seg_again rfl loop
  · refine seg_bind_wrap (wpAny_rule ?_)
    show Seg _ A _ _ _ s₀ _ ((standAt iter.pos >>= _).wrap _ _ _ _) [] s
    exact seg_bind_wrap (wpAny_standAt (seg_bind_wrap (self _ _ _ (seg_again rfl loop))))
end
end Gx
end PySem
/-! ### the two together: all(g), any(g), g a generator expression not yet begun -/
namespace PySem
namespace Gx
open PySem.W PySem.Calls PyProof.Rows L2 GenW
/-- the heap is extended; the table of generators stays bare -/
structure Ex (s s' : Shared) : Prop where
  os : s'.os = s.os
  bare : AllBare s'.gens
  heap : ∀ b o, s.heap.get? b = some o → s'.heap.get? b = some o
/-- the end of the generator -/
def Rg (Dn : Shared → Shared → Prop) : GenEnd := fun _ s₀ r s₁ => ((r = .ok (.ret .none) ∨ r = .ok .next) ∧ Dn s₀ s₁) ∨ ∃ e, r = .error e ∧ False
theorem seg_rg {M : Model} {A : Around} {Sr : Value → Shared → Shared → Prop} {C : Shared → Value → Shared → Prop} {Go : Value → Prop} {Dn : Shared → Shared → Prop} {n : Nat} {s₀ : Shared} {c : Code} {t : Sem PySem.Fin} {fs : List Frame} {s : Shared} (h : Seg M A (Rx Dn) (Yx Sr C Go) n s₀ c t fs s) : Seg M A (Rg Dn) (Yx Sr C Go) n s₀ c t fs s :=
  seg_imp (fun _ s₀ r s h => .inl ⟨.inr h.1, h.2⟩) (fun _ _ v s kap kap' hk h => ⟨h.1, fun gv s' hs => hk _ _ (h.2 gv s' hs)⟩) n h
section
variable {prog : Program} {w : World} {A : Around} {E : Value → Shared → Prop} {a : Addr} {g : Nat}
/-- a value that is handed out: its generator stands; what then is, if the consumer stops at it -/
def Cx (a : Addr) (g : Nat) (stop : Bool) (Q : Shared → Prop) (v : Value) (s : Shared) : Prop :=
  ∃ b, v = .bool b ∧ s.heap.IsGen a g ∧ s.heap.NoLimit ∧ AllBare s.gens ∧ (b = stop → ∀ s', Sl s s' → Q s')
def Dx (Q : Shared → Prop) (s : Shared) : Prop := AllBare s.gens ∧ ∀ s', Ex s s' → Q s'
/-- the generator sleeps, m items at most are left -/
def Wx (prog : Program) (w : World) (A : Around) (a : Addr) (g : Nat) (stop : Bool) (C : Value → Shared → Prop) (Dn : Shared → Prop) (m : Nat) (s : Shared) : Prop :=
  s.heap.IsGen a g ∧ s.heap.NoLimit ∧ AllBare s.gens ∧ ∃ gs, s.gens[g]? = some gs ∧ gs.Goes (model prog w) A (Rg fun _ => Dn) (Yx (fun _ => Sl) (fun _ => C) fun v => v = .bool (!stop)) m (.send .none) (s.setGen g .running)
theorem next_x {stop : Bool} {Q1 Q2 : Shared → Prop} {R : Option Value → Shared → Prop} {m : Nat} {s : Shared} (hh : A.handled = none) (hd : A.depth < recursionLimit)
    (hW : Wx prog w A.in1 a g stop (Cx a g stop Q1) (Dx Q2) m s)
    (hnone : ∀ s', Q2 s' → R none s')
    (hstop : ∀ s', Q1 s' → R (some (.bool stop)) s')
    (hgo : ∀ s' m', m' < m → Wx prog w A.in1 a g stop (Cx a g stop Q1) (Dx Q2) m' s' → R (some (.bool (!stop))) s') :
    wpAny (model prog w) A (pyNext (.ref a)) R E s := by
  obtain ⟨hg, hl, hb, gs, hgs, hgoes⟩ := hW
  have hgl : g < s.gens.size := (Array.getElem?_eq_some_iff.mp hgs).1
  refine wpAny_gsz (n := g + 1) hgl (next_genG (F := fun _ _ s₁ => Dx Q2 s₁) (Er := fun _ _ => False) hh hl hd hg hgs hgoes (fun v s₁ gs' hbare hv => ?_) (fun s₁ hp h' hk => ?_) fun e s₁ he => he.elim)
  · intro hsz
    obtain ⟨⟨b, rfl, hg1, hl1, hb1, hs1⟩, hk⟩ := hv
    have hsz1 : g < s₁.gens.size := by
      have q : (s₁.setGen g gs').gens.size = s₁.gens.size := setGen_size _ _ _
      have hsz' : g + 1 ≤ (s₁.setGen g gs').gens.size := hsz
      omega
    by_cases e : b = stop
    · subst e
      exact hstop _ (hs1 rfl _ ⟨rfl, allBare_setGen hb1 hbare, rfl⟩)
    · have e2 : b = !stop := by cases b <;> cases stop <;> first | rfl | exact absurd rfl e
      subst e2
      cases m with
      | zero => exact (hk rfl s₁ ⟨rfl, hb1, rfl⟩).elim
      | succ k => exact hgo _ k (Nat.lt_succ_self k) ⟨hg1, hl1, allBare_setGen hb1 hbare, gs', setGen_at hsz1, hk rfl _ ⟨rfl, allBare_setGen (s := s₁.setGen g gs') (allBare_setGen hb1 hbare) rfl, rfl⟩⟩
  · intro hsz
    exact hnone _ (hp.2 _ ⟨rfl, allBare_setGen hp.1 rfl, hk⟩)
theorem call_all_gen {Q : Value → Shared → Prop} {m : Nat} {s : Shared} (hh : A.handled = none) (hd : A.depth + 1 < recursionLimit)
    (hW : Wx prog w A.in1.in1 a g false (Cx a g false fun s' => Q (.bool false) s') (Dx fun s' => Q (.bool true) s') m s) :
    wpAny (model prog w) A (call (.builtin "all") [.ref a]) Q E s := by
  refine call_function_tree F.kind_all F.plain_all F.entry_all (F.args_all1 _) ?_
  unfold Builtin.«all»
  refine wpAny_bind (m := oneArg "all" _) (wpAny_pure ?_)
  refine wpAny_bind (wpAny_pyIter_gen hW.1 ?_)
  refine wpAny_pure ⟨plainId_quiet F.plain_all_loop _, ?_⟩
  refine all_loop (A := A) (fun m s => Wx prog w A.in1.in1 a g false (Cx a g false fun s' => Q (.bool false) s') (Dx fun s' => Q (.bool true) s') m s) (fun m s h => ?_) m s hW
  exact next_x (A := A.in1) hh (by show A.depth < _; omega) h (fun s' q => q) (fun s' q => ⟨false, rfl, q⟩) fun s' m' hm h' => ⟨true, rfl, m', hm, h'⟩
theorem call_any_gen {Q : Value → Shared → Prop} {m : Nat} {s : Shared} (hh : A.handled = none) (hd : A.depth + 1 < recursionLimit)
    (hW : Wx prog w A.in1.in1 a g true (Cx a g true fun s' => Q (.bool true) s') (Dx fun s' => Q (.bool false) s') m s) :
    wpAny (model prog w) A (call (.builtin "any") [.ref a]) Q E s := by
  refine call_function_tree F.kind_any F.plain_any F.entry_any (F.args_any1 _) ?_
  unfold Builtin.«any»
  refine wpAny_bind (m := oneArg "any" _) (wpAny_pure ?_)
  refine wpAny_bind (wpAny_pyIter_gen hW.1 ?_)
  refine wpAny_pure ⟨plainId_quiet F.plain_any_loop _, ?_⟩
  refine any_loop (A := A) (fun m s => Wx prog w A.in1.in1 a g true (Cx a g true fun s' => Q (.bool true) s') (Dx fun s' => Q (.bool false) s') m s) (fun m s h => ?_) m s hW
  exact next_x (A := A.in1) hh (by show A.depth < _; omega) h (fun s' q => q) (fun s' q => ⟨true, rfl, q⟩) fun s' m' hm h' => ⟨false, rfl, m', hm, h'⟩
end
end Gx
end PySem
/-! ### a generator expression is made -/
namespace PySem
namespace Gx
open PySem.W PySem.Calls PyProof.Rows L2 GenW
section
variable {X : L2.Cx} {pins : List (Addr × Obj)} {σ : L2.St} {H : Hp} {s : Shared}
theorem gen_make {c P : Addr} {elt tg iter : Expr} {ifs : List Expr} {x : Str} {gpos : Pos} {scope : Scope} {wi : TI} {k : Nat} {Q' : Value → Shared → Prop} {R : It → Hp → Prop}
    (hr : Room k X.A) (TB : GxR.TabB X.base X.mg c P) (hcode : X.env.code = .ref c) (S : GxR.GenS X.env scope x) (hi : PI X tg iter wi) (hs : ∀ v, genFold iter X.env v = pure v)
    (I : Inv X pins σ H s) (h : wi σ H fun J H1 => GxR.TabG H1 P ∧ R J H1)
    (hQ : ∀ (it : Addr) (fp : List Addr) (tn : Nat → Heap → Prop) (J : It) (H1 H2 : Hp) (code : Value) (C a : Addr) (g : Nat) (s4 s5 : Shared), R J H1 → GxR.Tabbed P H1 H2 → Inv X pins σ H2 s4 → s4.heap.objs.size = C → (∀ b o, s4.heap.get? b = some o → s5.heap.get? b = some o) → s5.os = s4.os → tn 0 s4.heap → Inv X pins σ H2 s5 → Turn X.prog X.w X.K tg J fp it tn → tn 0 s5.heap → (∀ b ∈ fp, FpOk X pins H2 b) →
      s5.heap.Ns C (fun y => if y = ".0" then some (.ref it) else none) → FpOk X pins H2 C → C ∉ fp → s5.heap.IsGen a g → FpOk X pins H2 a → a ∉ fp → a ≠ C →
      s5.gens[g]? = some (.fresh (.compStart (.GeneratorExp elt [⟨tg, iter, ifs, 0⟩] scope gpos) 0 (.ref it) .none (genEnv scope (cloFrom X.env.cells scope.names []) C code builtinsNs X.env))) → Q' (.ref a) s5) :
    wpAny (model X.prog X.w) X.A (eval (.GeneratorExp elt [⟨tg, iter, ifs, 0⟩] scope gpos) X.env) Q' X.xe s := by
  refine wpAny_GeneratorExp_make S.co (closure_ok S.free) S.cell S.dot S.kind (by have := hr.dp; omega) ?_ hs
  refine thn (hi.run pins s σ H _ I h) fun xv s1 h1 => thn h1 fun itv s2 h2 => ?_
  obtain ⟨it, fp, tn, J, H1, rfl, I2, T, st2, f2, ⟨ps, hP, ht⟩, q⟩ := h2
  have hPs : s2.heap.get? P = some { cls := .none, data := .fields ps } := I2.hok P _ hP
  have hPlt : P < s2.heap.objs.size := Heap.lt_size hPs
  have cd : PySem.W.CodeHd s2.heap c P := TB.code.keeps fun b u e => I2.bk b u e
  have cont : ∀ (code : Value) (h3 : Heap) (tk : Nat) (ps' : Array Value), Heap.ExtBut P s2.heap h3 → s2.heap.objs.size ≤ h3.objs.size → h3.get? P = some { cls := .none, data := .fields ps' } → (∃ more, ps' = ps ++ more) → TriplesOk ps'.toList →
      wpAny (model X.prog X.w) X.A (builtinsFor X.env.globals X.env.builtins) (fun bi s₄ =>
        ∀ h', h'.Ns s₄.heap.objs.size (fun y => if y = ".0" then some (.ref it) else none) → Heap.SameBut s₄.heap.objs.size (s₄.heap.push { cls := .type "frame", data := .dict #[] }) h' →
          Q' (.ref h'.objs.size) { s₄ with
            gens := s₄.gens.push (.fresh (.compStart (.GeneratorExp elt [⟨tg, iter, ifs, 0⟩] scope gpos) 0 (.ref it) .none (genEnv scope (cloFrom X.env.cells scope.names []) s₄.heap.objs.size code bi X.env))),
            toks := s₄.toks + 1 + 1 + 1,
            heap := h'.push { cls := .type "generator", data := .fields #[.int s₄.gens.size 0, .str "<genexpr>" (s₄.toks + 1), .str (X.env.qual ++ "<genexpr>") (s₄.toks + 1 + 1)] } }) X.xe { s2 with heap := h3, toks := tk } := by
    intro code h3 tk ps' hx hsz hP3 hmore ht3
    obtain ⟨bm, ob, e1, e2, e3, e4, e5, e6, e7, e8⟩ := TB.bm
    refine wpAny_builtinsFor (m := X.mg) (by rw [I2.ok.glob]; exact (I2.mod.glob.keeps I2.bk).extBut hx TB.gP) e1 e2 (hx _ _ e4 (I2.bk _ _ e5)) e6 e7 e8 ?_
    intro h' hn' hs'
    have hsz' : h'.objs.size = h3.objs.size + 1 := by rw [hs'.1, Heap.size_push]
    have keep' : ∀ b o, h3.get? b = some o → h'.get? b = some o := fun b o e => hs'.extBut b o (Nat.ne_of_lt (Heap.lt_size e)) (Heap.get?_push_of_some _ e)
    have keep5 : ∀ b o, b ≠ P → s2.heap.get? b = some o → (h'.push { cls := .type "generator", data := .fields #[.int s2.gens.size 0, .str "<genexpr>" (tk + 1), .str (X.env.qual ++ "<genexpr>") (tk + 1 + 1)] }).get? b = some o :=
      fun b o hb e => Heap.get?_push_of_some _ (keep' b o (hx b o hb e))
    obtain ⟨more, em⟩ := hmore
    have nfP : ∀ b ∈ fp, b ≠ P := fun b hb e => by
      have := (f2 b hb).1
      rw [e, hP] at this
      cases this
    have fok : ∀ b, FpOk X pins H1 b → FpOk X pins (upd H1 P (.tbl (ps ++ more))) b := fun b hb => by
      have nb : b ≠ P := fun e => by
        have := hb.1
        rw [e, hP] at this
        cases this
      exact ⟨by rw [upd_ne nb]; exact hb.1, hb.2⟩
    have hCf : (h3.objs.size : Nat) ∉ fp := fun hb => by
      obtain ⟨o, ho, _⟩ := T.obj _ _ st2 _ hb
      exact absurd (Nat.lt_of_lt_of_le (Heap.lt_size ho) hsz) (Nat.lt_irrefl _)
    have hge : s2.heap.objs.size ≤ h'.objs.size := by rw [hsz']; exact Nat.le_succ_of_le hsz
    have haf : (h'.objs.size : Nat) ∉ fp := fun hb => by
      obtain ⟨o, ho, _⟩ := T.obj _ _ st2 _ hb
      exact absurd (Nat.lt_of_lt_of_le (Heap.lt_size ho) hge) (Nat.lt_irrefl _)
    have J5 := GxR.inv_tab (more := more) (h' := h'.push { cls := .type "generator", data := .fields #[.int s2.gens.size 0, .str "<genexpr>" (tk + 1), .str (X.env.qual ++ "<genexpr>") (tk + 1 + 1)] })
      (g' := s2.gens.push (.fresh (.compStart (.GeneratorExp elt [⟨tg, iter, ifs, 0⟩] scope gpos) 0 (.ref it) .none (genEnv scope (cloFrom X.env.cells scope.names []) h3.objs.size code builtinsNs X.env)))) (d' := s2.drawn) (t' := tk + 1 + 1 + 1)
      I2 hP keep5 (by rw [← em]; exact Heap.get?_push_of_some _ (keep' P _ hP3)) (I2.bare.push rfl)
    have J4 := GxR.inv_tab (more := more) (h' := h3) (g' := s2.gens) (d' := s2.drawn) (t' := tk) I2 hP (fun b o hb e => hx b o hb e) (by rw [← em]; exact hP3) I2.bare
    refine hQ it fp tn J H1 (upd H1 P (.tbl (ps ++ more))) code h3.objs.size h'.objs.size s2.gens.size _ _ q ⟨⟨ps ++ more, upd_same, by rw [← em]; exact ht3⟩, fun b hb => upd_ne hb⟩ J4 rfl (fun b o e => Heap.get?_push_of_some _ (keep' b o e)) rfl (T.keep _ _ _ st2 fun b hb o e => hx b o (nfP b hb) e) J5 T
      (T.keep _ _ _ st2 fun b hb o e => keep5 b o (nfP b hb) e) (fun b hb => fok b (f2 b hb)) (hn'.push _) (fok _ (I2.fpOk hsz (I2.hok.fresh hsz))) hCf ⟨_, _, _, Heap.get?_push_size _ rfl, rfl, rfl, rfl⟩
      (fok _ (I2.fpOk hge (I2.hok.fresh hge))) haf (by rw [hsz']; exact Nat.succ_ne_self _) (Array.getElem?_push_size ..)
  refine ⟨I2.nolimit, ?_⟩
  cases hf : codeAmong gpos ps.toList with
  | none =>
    refine wpAny_genexprCodeX hcode (cd.code hPs ht) (cd.tab hPs) hf fun c' h' tk hx hge hlt hco' _ htab' _ => ?_
    obtain ⟨o1, vs, f1, tf, fl, tg', inF, tx, tt, op, _, _, _, _, _, _, _, _, _, htr, _⟩ := hco'
    exact cont _ h' tk _ hx (Nat.le_trans hge (Nat.le_of_lt hlt)) htab'.2 ⟨_, rfl⟩ htr
  | some cv =>
    refine wpAny_genexprCode_hit hcode (cd.code hPs ht) hf ?_
    exact cont cv s2.heap s2.toks ps (Heap.ExtBut.refl _ _) (Nat.le_refl _) hPs ⟨#[], by simp⟩ ht
end
end Gx
end PySem
/-! ### the frame of the expression, as a context -/
namespace PySem
namespace Gx
open PySem.W PySem.Calls PyProof.Rows L2 GenW
abbrev gcx (X : L2.Cx) (B : Around) (s : Shared) (H : Hp) (env : Env) (fp : List Addr) (pn : List (Addr × Obj)) : L2.Cx :=
  { X with A := B, s_0 := s, H_0 := H, env := env, outer := X.stack, stack := env :: X.stack, ex := fp, fn := fun _ => false, pn := pn, xe := fun _ _ => False }
section
variable {X : L2.Cx} {pins : List (Addr × Obj)} {σ : L2.St} {H : Hp} {s4 s5 : Shared}
/-- s4: ahead of the frame; s5: the generator stands -/
theorem gx_start {B : Around} {scope : Scope} {own : List (Str × Nat)} {fp : List Addr} {pn : List (Addr × Obj)} {code it : Value} (I4 : Inv X pins σ H s4) (I5 : Inv X pins σ H s5) (ok : BlkOk X.N X.env.scope scope own) (hN : X.N.Nodup)
    (hcell : ∀ y ∈ scope.names, y.2 ≠ .cell) (hX : X.calm = true) (hB : B.handled = none) (hBf : B.frames = some (genEnv scope (cloFrom X.env.cells scope.names []) s4.heap.objs.size code builtinsNs X.env :: X.stack))
    (hfp : ∀ b ∈ fp, FpOk X pins H b ∧ b ≠ s4.heap.objs.size) (keep : ∀ b o, s4.heap.get? b = some o → s5.heap.get? b = some o) (os : s5.os = s4.os)
    (hns : s5.heap.Ns s4.heap.objs.size (fun y => if y = ".0" then some it else none)) (hpn : ∀ p ∈ pn, s5.heap.get? p.1 = some p.2 ∧ H p.1 = none ∧ p.1 ≠ s4.heap.objs.size ∧ p.1 ∉ frs X.stack ∧ ∀ v, p.2.data ≠ .cell v) :
    Inv (gcx X B s4 H (genEnv scope (cloFrom X.env.cells scope.names []) s4.heap.objs.size code builtinsNs X.env) fp pn) [] (wipe σ (own.map (·.2))) H s5 := by
  have hfree : ∀ y ∈ scope.names, y.2 = .free → ∃ c, X.env.cells.lookup y.1 = some c := fun y hy e => by
    rcases ok.free y hy e with k | k
    · exact I4.ok.has _ (.inl k)
    · exact I4.ok.has _ (.inr k)
  have cm : ∀ {y c}, (y, c) ∈ cloFrom X.env.cells scope.names [] → X.env.cells.lookup y = some c ∧ c < s4.heap.objs.size := fun {y c} hm => by
    rcases cloFrom_mem hm with hm | ⟨h1, rfl⟩
    · cases hm
    · obtain ⟨c, hc⟩ := hfree _ h1 rfl
      rw [hc]
      obtain ⟨w, z⟩ := I4.cell _ _ hc
      exact ⟨rfl, z.lt⟩
  have mem : ∀ {y c}, (cloFrom X.env.cells scope.names []).lookup y = some c → X.env.cells.lookup y = some c ∧ c < s4.heap.objs.size := fun {y c} e => cm (PySem.mem_of_lookup e)
  have look : ∀ {y}, scope.names.lookup y = some .free → ∃ c, (cloFrom X.env.cells scope.names []).lookup y = some c ∧ X.env.cells.lookup y = some c := fun {y} hl => by
    have hy : (y, NameKind.free) ∈ scope.names := PySem.mem_of_lookup hl
    obtain ⟨c', e'⟩ := mem_lookup (cloFrom_has (cells := X.env.cells) (acc := []) hy)
    exact ⟨c', e', (mem e').1⟩
  have okB : (gcx X B s4 H (genEnv scope (cloFrom X.env.cells scope.names []) s4.heap.objs.size code builtinsNs X.env) fp pn).Ok := by
    refine ⟨I4.ok.mod, ok.kind, I4.ok.glob, rfl, Nat.le_refl _, fun y z c e1 e2 => I4.ok.inj y z c (mem e1).1 (mem e2).1, fun y hy => ?_, (fun y c z e => by cases z), fun _ => hB, hBf, .inr ⟨rfl, rfl⟩,
      fun b hb => ⟨(hfp b hb).2, fun y c e z => (hfp b hb).1.2.2.2.2.1 y c (mem e).1 z⟩, I4.bs, Nat.le_trans I4.ok.bsz I4.sz, fun b o e hb => ?_, fun b hb z => ?_, I4.stack, I4.stkFree⟩
    · rcases hy with hy | hy
      · exact absurd rfl (hcell _ (PySem.mem_of_lookup hy))
      · obtain ⟨c, h1, _⟩ := look hy
        exact ⟨c, h1⟩
    · rcases (hfp b hb).1.2.2.2.1 with z | z
      · exact I4.ok.noex b o e z
      · exact absurd (Nat.lt_of_lt_of_le (Heap.lt_size e) (Nat.le_trans I4.ok.bsz z)) (Nat.lt_irrefl _)
    · rcases List.mem_cons.mp (I4.stkSub b z) with z | z
      · exact (hfp b hb).1.2.1 z
      · exact (hfp b hb).1.2.2.1 z
  refine ⟨okB, os, I5.bare, Un.kept keep, ⟨_, hns, fun i y av e1 e2 e3 => ?_⟩, fun y c e => ?_, I4.hok.fresh (Nat.le_refl _), fun y c e => I4.freeC y c (mem e).1, fun p hp => ?_, I5.hok, by rw [wipe_length]; exact I4.len⟩
  · obtain ⟨e2, hne⟩ := wipe_some e2
    have hfr : scope.names.lookup y = some .free := by
      have no : ∀ k, scope.names.lookup y = some k → ¬ (k = .local ∨ k = .cell) := fun k hk hh => by
        rcases ok.own _ (PySem.mem_of_lookup hk) hh with e' | e'
        · obtain ⟨p, hp, hpy⟩ := List.mem_map.mp e'
          have e3 := ok.ix p hp
          have : p.1 = y := hpy
          rw [this] at e3
          exact hne (List.mem_map.mpr ⟨p, hp, nodup_ix hN e3 e1⟩)
        · exact e' (List.mem_of_getElem? e1)
      rcases e3 with e3 | e3 | e3
      · exact absurd (.inl rfl) (no _ e3)
      · exact absurd (.inr rfl) (no _ e3)
      · exact e3
    obtain ⟨m, hn, hl⟩ := I4.loc
    have hvis : Vis X.env.scope y := (ok.free _ (PySem.mem_of_lookup hfr) rfl).elim (fun k => .inr (.inl k)) (fun k => .inr (.inr k))
    obtain ⟨w, r, q⟩ := hl i y av e1 e2 hvis
    refine ⟨w, r, .inr ⟨.inr hfr, ?_⟩⟩
    obtain ⟨c, h1, h2⟩ := look hfr
    rcases q with ⟨k, _⟩ | ⟨_, c', e', z⟩
    · have k : X.env.scope.names.lookup y = some .local := k
      rcases ok.free _ (PySem.mem_of_lookup hfr) rfl with k' | k' <;> rw [show X.env.scope.names.lookup y = _ from k'] at k <;> cases k
    · rw [h2] at e'; cases e'
      exact ⟨c, h1, z.keeps keep⟩
  · obtain ⟨w, z⟩ := I4.cell y c (mem e).1
    exact ⟨w, z.keeps keep⟩
  · have hp : p ∈ pn := by simpa using hp
    exact hpn p hp
/-- the frame's around: the one of the caller, that frame on it -/
theorem gx_frames {A : Around} {elt iter tg : Expr} {ifs : List Expr} {scope : Scope} {pos : Pos} {it : Value} {env : Env} {l : List Env} (hf : env.frame = some env.locals) (h : A.frames = some l) :
    (A.over (.compLoop (.GeneratorExp elt [⟨tg, iter, ifs, 0⟩] scope pos) 0 it .none env) []).frames = some (env :: l) := by
  obtain ⟨hd, d, fr, gs, u⟩ := A
  have h : fr = some l := h
  subst h
  simp [Around.over, envsOf, pushEnvs, Code.envs, Code.env?, Code.isFrame]
end
end Gx
end PySem
/-! ### the rule -/
namespace PySem
namespace Gx
open PySem.W PySem.Calls PyProof.Rows L2 GenW
/-- all(e for t in it if c) (stop = false), any(..) (stop = true): vs: the expression's own names' places, P: the table of the def's code -/
def tGen (stop : Bool) (wi : TI) (g : TG) (tt : TT) (te : TE) (vs : List Nat) (P : Addr) : TE := fun σ H Q => wi σ H fun J H1 => GxR.TabG H1 P ∧ ∀ H2, GxR.Tabbed P H1 H2 → ∃ W : Nat → Nat → Hp → Prop, (∃ m, W 0 m H2) ∧ ∀ i m H, W i m H →
  (J.stop i H ∧ Q (.bl (!stop)) H) ∨ (J.go i H ∧ ∃ Nx : Hp → Prop, (∀ H', Nx H' → ∃ m', m' < m ∧ W (i + 1) m' H') ∧ ∀ x H', J.yld i H x H' → g x (wipe σ vs) H' fun σ2 H2 => wipe σ2 vs = wipe σ vs ∧ tt σ2 H2 fun b H3 =>
    if b = true then te σ2 H3 fun y H4 => ∃ c, y = .bl c ∧ if c = stop then Q (.bl stop) H4 else Nx H4 else Nx H3)
section
variable {X : L2.Cx} {pins : List (Addr × Obj)} {σ : L2.St} {H : Hp} {s : Shared}
theorem inv_sl {Y : L2.Cx} {pins : List (Addr × Obj)} {σ : L2.St} {H : Hp} {s s' : Shared} (I : Inv Y pins σ H s) (h : Sl s s') : Inv Y pins σ H s' :=
  I.call' (ch := []) h.os (Un.kept fun b o e => by rw [h.heap]; exact e) (I.hok.kept fun b o e => by rw [h.heap]; exact e) h.bare fun b hb => absurd hb (by simp)
/-- back in the caller's frame -/
theorem gx_back {B : Around} {s4 s1 s' : Shared} {H2 H' : Hp} {env : Env} {fp : List Addr} {pn ps : List (Addr × Obj)} {σ' : L2.St} (I4 : Inv X pins σ H2 s4) (hfp : ∀ b ∈ fp, FpOk X pins H2 b) (Ig : Inv (gcx X B s4 H2 env fp pn) ps σ' H' s1) (e : Ex s1 s') : Inv X pins σ H' s' :=
  I4.call' (ch := fp) (e.os.trans Ig.os) (Ig.base.trans (Un.kept e.heap)) (Ig.hok.kept e.heap) e.bare fun b hb => ⟨(hfp b hb).2.2.2.1, (hfp b hb).2.1, (hfp b hb).2.2.2.2.1, (hfp b hb).2.2.2.2.2⟩
theorem pe_gen (stop : Bool) {c P : Addr} {elt tg iter : Expr} {ifs : List Expr} {x : Str} {f : String} {p pos gpos : Pos} {scope : Scope} {own : List (Str × Nat)} {wi : TI} {g : TG} {tt : TT} {te : TE} {k : Nat} (hf : f = if stop = true then "any" else "all")
    (hr : Room (k + 3) X.A) (hc : X.calm = true) (hN : X.N.Nodup) (hg : Gl X f) (hm : X.mg f = none) (TB : GxR.TabB X.base X.mg c P) (hcode : X.env.code = .ref c) (S : GxR.GenS X.env scope x) (ok : BlkOk X.N X.env.scope scope own)
    (hi : PI X tg iter wi)
    (ht : ∀ (B : Around) (s : Shared) (H : Hp) (C : Addr) (code : Value) (fp : List Addr) (pn : List (Addr × Obj)), Room k B → PG (gcx X B s H (genEnv scope (cloFrom X.env.cells scope.names []) C code builtinsNs X.env) fp pn) tg g)
    (hts : ∀ (B : Around) (s : Shared) (H : Hp) (C : Addr) (code : Value) (fp : List Addr) (pn : List (Addr × Obj)), Room k B → PTs (gcx X B s H (genEnv scope (cloFrom X.env.cells scope.names []) C code builtinsNs X.env) fp pn) ifs tt)
    (hel : ∀ (B : Around) (s : Shared) (H : Hp) (C : Addr) (code : Value) (fp : List Addr) (pn : List (Addr × Obj)), Room k B → PE (gcx X B s H (genEnv scope (cloFrom X.env.cells scope.names []) C code builtinsNs X.env) fp pn) elt te)
    (hs : ∀ v, genFold iter X.env v = pure v)
    (he : starEach [.GeneratorExp elt [⟨tg, iter, ifs, 0⟩] scope gpos] X.env = (false, eval (.GeneratorExp elt [⟨tg, iter, ifs, 0⟩] scope gpos) X.env) :: starEach [] X.env := by rfl) :
    PE X (.Call (.Name f p) [.GeneratorExp elt [⟨tg, iter, ifs, 0⟩] scope gpos] [] pos) (tGen stop wi g tt te (own.map (·.2)) P) := by
  refine ⟨fun pins s σ H Q I h => ?_⟩
  have hstk := I.ok.frames
  have fin : ∀ (a : Addr) (g : Nat) (m : Nat) (s5 : Shared), Wx X.prog X.w X.A.in1.in1 a g stop (Cx a g stop fun s' => ∃ v H', Inv X pins σ H' s' ∧ RelV v (.bool stop) ∧ Q v H') (Dx fun s' => ∃ v H', Inv X pins σ H' s' ∧ RelV v (.bool !stop) ∧ Q v H') m s5 →
      wpAny (model X.prog X.w) X.A (call (.builtin f) [.ref a]) (fun u s' => ∃ v H', Inv X pins σ H' s' ∧ RelV v u ∧ Q v H') X.xe s5 := by
    intro a g m s5 hW
    subst hf
    cases stop with
    | false => exact call_all_gen (Q := fun u s' => ∃ v H', Inv X pins σ H' s' ∧ RelV v u ∧ Q v H') hr.hd (by have := hr.dp; omega) hW
    | true => exact call_any_gen (Q := fun u s' => ∃ v H', Inv X pins σ H' s' ∧ RelV v u ∧ Q v H') hr.hd (by have := hr.dp; omega) hW
  have hb : bootBuiltins f = some (.builtin f) := by subst hf; cases stop <;> decide +kernel
  refine wpAny_Call_Name_kw (ld_blt I hg hm hb ?_ (by subst hf; cases stop <;> decide) (by subst hf; cases stop <;> decide))
  refine PyProof.Rows.callWith_builtin1 ?_ he (by rfl)
  rw [he]
  show wpAny _ _ (spliced ((false, eval (.GeneratorExp elt [⟨tg, iter, ifs, 0⟩] scope gpos) X.env) :: backTo pos (starEach [] X.env))) _ _ s
  refine Calls.spliced_cons (gen_make hr TB hcode S hi hs I h fun it fp tn J H1 H2 code C a gi s4 s5 q tab I4 hC keep os st4 I5 T st5 f2 hns fC hCf hgen fa haf haC hgs => ?_)
  refine Calls.spliced_nil ?_
  obtain ⟨W, ⟨m0, w0⟩, turn⟩ := q H2 tab
  subst hC
  have lt4 : ∀ b ∈ fp, b < s4.heap.objs.size := fun b hb => by
    obtain ⟨o, ho, _⟩ := T.obj _ _ st4 b hb
    exact Heap.lt_size ho
  obtain ⟨ga, gnm, gqn, gho, gr⟩ := id hgen
  obtain ⟨gcl, gdt, gsl⟩ := gr
  have bh : ∀ {c : Code}, (X.A.in1.in1.over c []).handled = none := fun {c} => hr.hd
  have rb : Room k (X.A.in1.in1.over (.compLoop (.GeneratorExp elt [⟨tg, iter, ifs, 0⟩] scope gpos) 0 (.ref it) .none (genEnv scope (cloFrom X.env.cells scope.names []) s4.heap.objs.size code builtinsNs X.env)) []) := ⟨hr.hd, by
    have := hr.dp
    show X.A.depth + 1 + 3 * k + 5 < recursionLimit
    omega, by
    have := hr.un
    show X.A.units + 5 + 16 * k + 200 < cLine
    omega⟩
  have I6 := gx_start (code := code) (it := .ref it) (own := own) (pn := [(a, ga)]) I4 I5 ok hN S.cell hc (B := X.A.in1.in1.over (.compLoop (.GeneratorExp elt [⟨tg, iter, ifs, 0⟩] scope gpos) 0 (.ref it) .none (genEnv scope (cloFrom X.env.cells scope.names []) s4.heap.objs.size code builtinsNs X.env)) [])
    hr.hd (gx_frames rfl hstk) (fun b hb => ⟨f2 b hb, Nat.ne_of_lt (lt4 b hb)⟩) keep os hns (fun p hp => by
      rw [List.mem_singleton.mp hp]
      refine ⟨gho, fa.1, haC, fun z => ?_, fun v z => ?_⟩
      · rcases List.mem_cons.mp (I4.stkSub a z) with z | z
        · exact fa.2.1 z
        · exact fa.2.2.1 z
      · rw [gdt] at z; cases z)
  refine fin a gi (m0 + 1) s5 ⟨hgen, I5.nolimit, I5.bare, _, hgs, rfl, seg_rg (seg_start (fun B Q E hq => T.self B 0 _ Q E st5 hq) (seg_loop rfl S.co
    (fun m _ s => ∃ i H', Inv (gcx X (X.A.in1.in1.over (.compLoop (.GeneratorExp elt [⟨tg, iter, ifs, 0⟩] scope gpos) 0 (.ref it) .none (genEnv scope (cloFrom X.env.cells scope.names []) s4.heap.objs.size code builtinsNs X.env)) []) s4 H2 (genEnv scope (cloFrom X.env.cells scope.names []) s4.heap.objs.size code builtinsNs X.env) fp [(a, ga)]) [] (wipe σ (own.map (·.2))) H' s ∧
      tn i s.heap ∧ (∀ b ∈ fp, H' b = none) ∧ W i m H') ?_ m0 (m0 + 1) _ _ (Nat.lt_succ_self _) ⟨0, H2, ?_, st5, fun b hb => (f2 b hb).1, w0⟩))⟩
  · generalize hBB : X.A.in1.in1.over (.compLoop (.GeneratorExp elt [⟨tg, iter, ifs, 0⟩] scope gpos) 0 (.ref it) .none (genEnv scope (cloFrom X.env.cells scope.names []) s4.heap.objs.size code builtinsNs X.env)) [] = B at rb ⊢
    have pg := ht B s4 H2 s4.heap.objs.size code fp [(a, ga)] rb
    have pt := hts B s4 H2 s4.heap.objs.size code fp [(a, ga)] rb
    have pe := hel B s4 H2 s4.heap.objs.size code fp [(a, ga)] rb
    have stat : ∀ {σ' : L2.St} {H' : Hp} {s' : Shared}, Inv (gcx X B s4 H2 (genEnv scope (cloFrom X.env.cells scope.names []) s4.heap.objs.size code builtinsNs X.env) fp [(a, ga)]) [] σ' H' s' → (∀ b ∈ fp, H' b = none) → ∀ b ∈ fp, FpOk (gcx X B s4 H2 (genEnv scope (cloFrom X.env.cells scope.names []) s4.heap.objs.size code builtinsNs X.env) fp [(a, ga)]) [] H' b := fun {σ' H' s'} I' hn b hb =>
      ⟨hn b hb, (I'.ok.exf b hb).1, I'.ok.exfs b hb, .inl hb, fun x c e => (I'.ok.exf b hb).2 x c e, fun p hp => by
        have hp : p ∈ [(a, ga)] ++ [] := hp
        rw [List.append_nil, List.mem_singleton] at hp
        rw [hp]
        exact fun z => haf (by rw [show a = b from z]; exact hb)⟩
    rintro m _ s5' ⟨i, H5, I5', st5', n5, w5⟩
    rcases turn i m H5 w5 with ⟨stop_, qq⟩ | ⟨go, Nx, hNx, step⟩
    · refine thnF (T.done (gcx X B s4 H2 (genEnv scope (cloFrom X.env.cells scope.names []) s4.heap.objs.size code builtinsNs X.env) fp [(a, ga)]) rfl rfl rfl hc i [] s5' _ H5 (fun _ _ => False) I5' (stat I5' n5) st5' stop_) fun r s6 ⟨hr6, I6⟩ => ?_
      subst hr6
      exact ⟨I6.bare, fun s' ex => ⟨.bl (!stop), H5, gx_back I4 f2 I6 ex, rfl, qq⟩⟩
    · refine thnF (T.item (gcx X B s4 H2 (genEnv scope (cloFrom X.env.cells scope.names []) s4.heap.objs.size code builtinsNs X.env) fp [(a, ga)]) rfl rfl rfl hc i [] s5' _ H5 (fun _ _ => False) I5' (stat I5' n5) st5' go) fun r s6 ⟨u, hr6, h6⟩ => ?_
      subst hr6
      refine thnF h6 fun _ s7 ⟨x, H7, I7, r7, y7, st7, n7⟩ => ?_
      have I7' := I7.pinned (stat I7 n7) (T.obj _ _ st7)
      refine thnF (pg.run _ s7 _ H7 x u _ I7' r7 (step x H7 y7)) fun _ s8 ⟨σ8, H8, I8, hw8, q8⟩ => ?_
      refine thnF (pt.run _ s8 σ8 H8 _ I8 q8) fun b s9 ⟨H9, I9, q9⟩ => ?_
      have fin2 : ∀ {s' : Shared} {H' : Hp}, Inv (gcx X B s4 H2 (genEnv scope (cloFrom X.env.cells scope.names []) s4.heap.objs.size code builtinsNs X.env) fp [(a, ga)]) ([] ++ pinsAt fp s7.heap) σ8 H' s' → Nx H' → ∃ m', m' < m ∧ ∃ i H', Inv (gcx X B s4 H2 (genEnv scope (cloFrom X.env.cells scope.names []) s4.heap.objs.size code builtinsNs X.env) fp [(a, ga)]) [] (wipe σ (own.map (·.2))) H' s' ∧ tn i s'.heap ∧ (∀ b ∈ fp, H' b = none) ∧ W i m' H' := fun {s' H'} I' nx => by
        obtain ⟨m', hm, w'⟩ := hNx H' nx
        have pin' : ∀ b ∈ fp, ∀ o, s7.heap.get? b = some o → s'.heap.get? b = some o ∧ H' b = none := fun b hb o e =>
          let z := I'.pin (b, o) (List.mem_append_right _ (List.mem_append_right _ (mem_pinsAt hb e)))
          ⟨z.1, z.2.1⟩
        have hl : (wipe σ (own.map (·.2))).length = σ8.length := by rw [← hw8, wipe_length]
        refine ⟨m', hm, i + 1, H', (I'.unpinned (pins := [])).weak hl (fun j v e => ?_), T.keep _ _ _ st7 fun b hb o e => (pin' b hb o e).1, fun b hb => ?_, w'⟩
        · rw [← hw8] at e
          exact (wipe_some e).1
        · obtain ⟨o, e, _⟩ := T.obj _ _ st7 b hb
          exact (pin' b hb o e).2
      cases b with
      | false =>
        simp only [Bool.false_eq_true, if_false] at q9 ⊢
        exact fin2 I9 q9
      | true =>
        simp only [if_true] at q9 ⊢
        refine thnF (pe.run _ s9 σ8 H9 _ I9 q9) fun z s10 ⟨yv, H10, I10, r10, b10, e10, q10⟩ => ?_
        subst e10
        have r10 : z = .bool b10 := r10
        refine ⟨⟨b10, r10, ⟨ga, gnm, gqn, (I10.pin (a, ga) (by simp)).1, gcl, gdt, gsl⟩, I10.nolimit, I10.bare, fun e s' hs' => ?_⟩, ?_⟩
        · rw [if_pos e] at q10
          exact ⟨.bl stop, H10, gx_back I4 f2 I10 ⟨hs'.os, hs'.bare, fun b o q => by rw [hs'.heap]; exact q⟩, rfl, q10⟩
        · intro gy
          rw [r10] at gy
          have gy : b10 = !stop := by injection gy
          rw [if_neg (by rw [gy]; cases stop <;> decide)] at q10
          obtain ⟨m', hm, i', H', J', rest⟩ := fin2 I10 q10
          exact ⟨m', hm, fun s' hs' => ⟨i', H', inv_sl J' hs', by rw [hs'.heap]; exact rest.1, rest.2⟩⟩
  · exact inv_sl I6 ⟨rfl, allBare_setGen I5.bare rfl, rfl⟩
end
end Gx
end PySem
/-! ### the form one uses: over any walk of the hand layer (walk_list, walk_tup, walk_range, ..) -/
namespace PySem
namespace Gx
open PySem.W PySem.Calls PyProof.Rows L2 GenW
/-- Pv: what is true ahead of each turn; an element's answer ends the walk or leads to the next turn -/
theorem gen_walk {J : It} {n : Nat} {G : Hp → Prop} {Y : Nat → Hp → V → Hp → Prop} {g : TG} {tt : TT} {te : TE} {vs : List Nat} {σ : L2.St} {Hs : Hp} {stop : Bool} {Q : VK} (w : Walk J n G Y) (Pv : Nat → Hp → Prop) (first : Pv 0 Hs) (stands : ∀ i H, Pv i H → G H)
    (turn : ∀ i x H H', i < n → Pv i H → Y i H x H' → g x (wipe σ vs) H' fun σ2 H2 => wipe σ2 vs = wipe σ vs ∧ tt σ2 H2 fun b H3 => if b = true then te σ2 H3 fun y H4 => ∃ c, y = .bl c ∧ if c = stop then Q (.bl stop) H4 else Pv (i + 1) H4 else Pv (i + 1) H3)
    (last : ∀ H, Pv n H → Q (.bl (!stop)) H) : ∃ W : Nat → Nat → Hp → Prop, (∃ m, W 0 m Hs) ∧ ∀ i m H, W i m H →
      (J.stop i H ∧ Q (.bl (!stop)) H) ∨ (J.go i H ∧ ∃ Nx : Hp → Prop, (∀ H', Nx H' → ∃ m', m' < m ∧ W (i + 1) m' H') ∧ ∀ x H', J.yld i H x H' → g x (wipe σ vs) H' fun σ2 H2 => wipe σ2 vs = wipe σ vs ∧ tt σ2 H2 fun b H3 =>
        if b = true then te σ2 H3 fun y H4 => ∃ c, y = .bl c ∧ if c = stop then Q (.bl stop) H4 else Nx H4 else Nx H3) := by
  refine ⟨fun i left H => i + left = n ∧ Pv i H, ⟨n, Nat.zero_add n, first⟩, fun i left H here => ?_⟩
  obtain ⟨count, now⟩ := here
  cases left with
  | zero =>
    obtain rfl : i = n := count
    exact .inl ⟨w.stops H (stands _ H now), last H now⟩
  | succ fewer =>
    have more : i < n := by omega
    exact .inr ⟨w.goes i H more (stands i H now), Pv (i + 1), fun H' then_ => ⟨fewer, Nat.lt_succ_self fewer, by omega, then_⟩, fun x H' given => turn i x H H' more now (w.yields i H x H' more (stands i H now) given)⟩
end Gx
end PySem
namespace PySem
namespace Gx
open PySem.W PySem.Calls PyProof.Rows L2 GenW
def Fit (c : Int) : Prop := -(2 ^ 63) ≤ c ∧ c < 2 ^ 63
/-- the list that holds the total -/
def ownL (tot : Int) (t : Tok) (c : Nat) : Obj := { cls := .type "list", dict := none, data := .seq #[.int tot t] c, slots := #[] }
section
variable {prog : Program} {w : World} {A : Around} {R : Result → Shared → Prop} {I S : Addr}
theorem sum_loop (W : Nat → Int → Shared → Prop) (step : ∀ m tot s, W m tot s → (∃ tA c, s.heap.get? S = some (ownL tot tA c)) ∧ wpAny (model prog w) A.in1 (pyNext (.ref I)) (fun r s' => match r with
    | none => ∀ t, R (.ok (.ret (.int tot t))) s'
    | some v => ∃ b t tB c', v = .int b t ∧ Fit b ∧ Fit (tot + b) ∧ s'.heap.get? S = some (ownL tot tB c') ∧ ∃ m', m' < m ∧ W m' (tot + b) { s' with heap := s'.heap.update S (Obj.mapSeq fun _ => #[Value.int (tot + b) s'.toks]), toks := s'.toks + 1 }) (fun _ _ => False) s) :
    ∀ (m : Nat) (tot : Int) (s : Shared), W m tot s → codeAny (model prog w) A (.builtin "sum.loop" ⟨[.ref I, .ref S, rawInt 0, rawInt 0], []⟩) R s := by
  intro m
  induction m using Nat.strongRecOn with
  | ind m ih =>
    intro tot s here
    obtain ⟨⟨tA, c, before⟩, nxt⟩ := step m tot s here
    refine codeAny_builtin F.entry_sum_loop ?_
    rw [Around.under_plainId F.plain_sum_loop _]
    show wpAny _ A.in1 (seqItems? (.ref S) >>= _) _ _ s
    refine wpAny_bind (wpAny_seqItems before rfl (?_))
    show wpAny _ A.in1 (tryCatch (pyNext (.ref I)) _ >>= _) _ _ s
    refine wpAny_bind (wpAny_tryCatch (wpAny_mono nxt (fun r s' told => ?_) fun _ _ e => e.elim))
    cases r with
    | none => exact wpAny_pure (told tA)
    | some v =>
      obtain ⟨b, t, tB, c', rfl, f1, f2, after, m', less, then_⟩ := told
      show wpAny _ A.in1 (if (_ : Bool) = true then (mkInt (tot + b) >>= _) else _) _ _ s'
      have fits : (decide (-(2 ^ 63) ≤ b) && decide (b < 2 ^ 63) && (decide (-(2 ^ 63) ≤ tot + b) && decide (tot + b < 2 ^ 63))) = true := by
        rw [decide_eq_true f1.1, decide_eq_true f1.2, decide_eq_true f2.1, decide_eq_true f2.2]
        rfl
      split
      rotate_left
      · rename_i bad
        exact absurd fits bad
      refine wpAny_bind (wpAny_mkInt (?_))
      show wpAny _ A.in1 (updateSeq S (fun _ => #[.int (tot + b) s'.toks]) >>= _) _ _ _
      refine wpAny_bind (?_)
      exact wpAny_updateSeq after rfl (wpAny_pure ⟨plainId_quiet F.plain_sum_loop _, ih m' less (tot + b) _ then_⟩)
end
/-- the consumer's list S alone has changed: b more -/
structure SlS (S : Addr) (b : Int) (s s' : Shared) : Prop where
  os : s'.os = s.os
  bare : AllBare s'.gens
  heap : ∀ x o, x ≠ S → s.heap.get? x = some o → s'.heap.get? x = some o
  own : ∀ tot t c, s.heap.get? S = some (ownL tot t c) → ∃ t' c', s'.heap.get? S = some (ownL (tot + b) t' c')
def SrS (S : Addr) (v : Value) (s s' : Shared) : Prop := ∀ b t, v = .int b t → SlS S b s s'
def CS (a : Addr) (g : Nat) (S : Addr) (s₀ : Shared) (v : Value) (s : Shared) : Prop := ∃ b t tot t1 c1 t2 c2, v = .int b t ∧ Fit b ∧ Fit (tot + b) ∧ s₀.heap.get? S = some (ownL tot t1 c1) ∧ s.heap.get? S = some (ownL tot t2 c2) ∧ s.heap.IsGen a g ∧ s.heap.NoLimit ∧ AllBare s.gens
def DS (S : Addr) (Q : Int → Shared → Prop) (s₀ s : Shared) : Prop := AllBare s.gens ∧ ∃ tot t1 c1, s₀.heap.get? S = some (ownL tot t1 c1) ∧ ∀ s', Ex s s' → Q tot s'
def Ws (prog : Program) (w : World) (A : Around) (a : Addr) (g : Nat) (S : Addr) (Q : Int → Shared → Prop) (m : Nat) (s : Shared) : Prop :=
  s.heap.IsGen a g ∧ s.heap.NoLimit ∧ AllBare s.gens ∧ ∃ gs, s.gens[g]? = some gs ∧ gs.Goes (model prog w) A (Rg (DS S Q)) (Yx (SrS S) (CS a g S) fun _ => True) m (.send .none) (s.setGen g .running)
theorem ownL_inj {x y : Int} {t u : Tok} {c d : Nat} (h : ownL x t c = ownL y u d) : x = y := by
  unfold ownL at h
  injection h with _ _ h
  injection h with h
  injection h with h
  injection h with h
  injection h
section
variable {prog : Program} {w : World} {A : Around} {E : Value → Shared → Prop} {a S : Addr} {g : Nat}
theorem next_s {Q : Int → Shared → Prop} {R : Option Value → Shared → Prop} {m : Nat} {s : Shared} {tot : Int} {tA : Tok} {c : Nat} (hh : A.handled = none) (hd : A.depth < recursionLimit) (apart : a ≠ S) (statics : cStatics ≠ S)
    (hW : Ws prog w A.in1 a g S Q m s) (before : s.heap.get? S = some (ownL tot tA c))
    (hnone : ∀ s', Q tot s' → R none s')
    (hgo : ∀ s' b t tB c', Fit b → Fit (tot + b) → s'.heap.get? S = some (ownL tot tB c') → (∃ m', m' < m ∧ ∀ h' tk, (∀ x o, x ≠ S → s'.heap.get? x = some o → h'.get? x = some o) → (∃ t' c', h'.get? S = some (ownL (tot + b) t' c')) → Ws prog w A.in1 a g S Q m' { s' with heap := h', toks := tk }) → R (some (.int b t)) s') :
    wpAny (model prog w) A (pyNext (.ref a)) R E s := by
  obtain ⟨hg, hl, hb, gs, hgs, goes⟩ := hW
  have hgl : g < s.gens.size := (Array.getElem?_eq_some_iff.mp hgs).1
  refine wpAny_gsz (n := g + 1) hgl (next_genG (F := fun _ s₀ s₁ => DS S Q s₀ s₁) (Er := fun _ _ => False) hh hl hd hg hgs goes (fun v s₁ gs' hbare hv => ?_) (fun s₁ hp h' hk => ?_) fun e s₁ he => he.elim)
  · intro hsz
    obtain ⟨⟨b, t, tot', t1, c1, t2, c2, rfl, f1, f2, s0S, s1S, hg1, hl1, hb1⟩, hk⟩ := hv
    have e : tot' = tot := by
      have z : s.heap.get? S = some (ownL tot' t1 c1) := s0S
      rw [before] at z
      injection z with z
      exact (ownL_inj z).symm
    subst e
    have hsz1 : g < s₁.gens.size := by
      have q : (s₁.setGen g gs').gens.size = s₁.gens.size := setGen_size _ _ _
      have hsz' : g + 1 ≤ (s₁.setGen g gs').gens.size := hsz
      omega
    refine hgo _ b t t2 c2 f1 f2 s1S ?_
    cases m with
    | zero =>
      exfalso
      refine hk trivial { s₁ with heap := s₁.heap.update S (Obj.mapSeq fun _ => #[Value.int (tot' + b) t2]) } fun b' t' z => ?_
      injection z with z
      subst z
      refine ⟨rfl, hb1, fun x o hx q => (Heap.get?_update_other _ _ (fun h : S = x => hx h.symm)).trans q, fun tot2 t3 c3 q => ?_⟩
      rw [s1S] at q
      injection q with q
      have := ownL_inj q
      subst this
      exact ⟨t2, _, Heap.get?_update_self _ s1S rfl⟩
    | succ k =>
      refine ⟨k, Nat.lt_succ_self k, fun h' tk others mine => ⟨?_, hl1.at fun o q => others _ o statics q, allBare_setGen hb1 hbare, gs', setGen_at hsz1, hk trivial _ fun b' t' z => ?_⟩⟩
      · obtain ⟨o, nm, qn, ho, r⟩ := hg1
        exact ⟨o, nm, qn, others a o apart ho, r⟩
      · injection z with z
        subst z
        refine ⟨rfl, allBare_setGen (s := { s₁.setGen g gs' with heap := h', toks := tk }) (allBare_setGen hb1 hbare) rfl, others, fun tot2 t3 c3 q => ?_⟩
        rw [s1S] at q
        injection q with q
        have := ownL_inj q
        subst this
        exact mine
  · intro hsz
    obtain ⟨hb1, tot', t1, c1, s0S, q⟩ := hp
    have e : tot' = tot := by
      have z : s.heap.get? S = some (ownL tot' t1 c1) := s0S
      rw [before] at z
      injection z with z
      exact (ownL_inj z).symm
    subst e
    exact hnone _ (q _ ⟨rfl, allBare_setGen hb1 rfl, hk⟩)
theorem call_sum_gen {Q : Value → Shared → Prop} {m : Nat} {s : Shared} (hh : A.handled = none) (hd : A.depth + 1 < recursionLimit) (hg : s.heap.IsGen a g) (statics : cStatics < s.heap.objs.size)
    (hW : ∀ t tk, Ws prog w A.in1.in1 a g s.heap.objs.size (fun tot s' => ∀ t, Q (.int tot t) s') m { s with heap := s.heap.push (ownL 0 t 0), toks := tk }) :
    wpAny (model prog w) A (call (.builtin "sum") [.ref a]) Q E s := by
  have lt : a < s.heap.objs.size := by
    obtain ⟨o, nm, qn, ho, r⟩ := hg
    exact Heap.lt_size ho
  refine call_function_tree F.kind_sum F.plain_sum F.entry_sum (F.args_sum1 _) ?_
  unfold Builtin.«sum»
  simp only [List.length_cons, List.length_nil]
  rw [if_neg (by decide)]
  refine wpAny_bind (wpAny_of_eq (show Builtin.Builtins.bindParams "sum" ["start"] 0 { } = pure [none] from rfl) (?_))
  refine wpAny_bind (wpAny_pyIter_gen hg (?_))
  refine wpAny_bind (wpAny_mkInt (?_))
  refine wpAny_bind (wpAny_pure (?_))
  simp only [List.forIn_cons, List.forIn_nil]
  refine wpAny_bind (wpAny_bind (wpAny_bind (wpAny_isInstance (T := "int") (b := false) (typeIs_int _ _ _) sub_int_str (?_))))
  simp only [Bool.false_eq_true, if_false]
  refine wpAny_pure (wpAny_bind (wpAny_bind (wpAny_isInstance (T := "int") (b := false) (typeIs_int _ _ _) sub_int_bytes (?_))))
  simp only [Bool.false_eq_true, if_false]
  refine wpAny_pure (wpAny_bind (wpAny_bind (wpAny_isInstance (T := "int") (b := false) (typeIs_int _ _ _) sub_int_bytearray (?_))))
  simp only [Bool.false_eq_true, if_false]
  refine wpAny_pure (wpAny_pure (?_))
  refine wpAny_bind (wpAny_newObj_type (?_))
  refine wpAny_pure ⟨plainId_quiet F.plain_sum_loop _, ?_⟩
  refine sum_loop (A := A) (S := s.heap.objs.size) (fun m tot s' => Ws prog w A.in1.in1 a g s.heap.objs.size (fun tot s' => ∀ t, Q (.int tot t) s') m s' ∧ ∃ tA c, s'.heap.get? s.heap.objs.size = some (ownL tot tA c)) (fun m tot s' here => ⟨here.2, ?_⟩) m 0 _ ⟨hW _ _, _, _, Heap.get?_push_size _ rfl⟩
  obtain ⟨hW', tA, c, before⟩ := here
  refine next_s (A := A.in1) hh (by show A.depth < _; omega) (Nat.ne_of_lt lt) (Nat.ne_of_lt statics) hW' before (fun s2 q t => q t) fun s2 b t tB c' f1 f2 after more => ?_
  obtain ⟨m', less, then_⟩ := more
  exact ⟨b, t, tB, c', rfl, f1, f2, after, m', less, then_ _ _ (fun x o hx q => (Heap.get?_update_other _ _ (fun h => hx h.symm)).trans q) ⟨_, _, Heap.get?_update_self _ after rfl⟩, _, _, Heap.get?_update_self _ after rfl⟩
end
end Gx
end PySem
/-! ### the rule -/
namespace PySem
namespace Gx
open PySem.W PySem.Calls PyProof.Rows L2 GenW
/-- sum(e for t in it if c): the total goes along with the walk -/
def tSum (wi : TI) (g : TG) (tt : TT) (te : TE) (vs : List Nat) (P : Addr) : TE := fun σ H Q => wi σ H fun J H1 => GxR.TabG H1 P ∧ ∀ H2, GxR.Tabbed P H1 H2 → ∃ W : Nat → Nat → Int → Hp → Prop, (∃ m, W 0 m 0 H2) ∧ ∀ i m tot H, W i m tot H →
  (J.stop i H ∧ Q (.int tot) H) ∨ (J.go i H ∧ ∃ Nx : Int → Hp → Prop, (∀ t' H', Nx t' H' → ∃ m', m' < m ∧ W (i + 1) m' t' H') ∧ ∀ x H', J.yld i H x H' → g x (wipe σ vs) H' fun σ2 H2 => wipe σ2 vs = wipe σ vs ∧ tt σ2 H2 fun b H3 =>
    if b = true then te σ2 H3 fun y H4 => ∃ c, y = .int c ∧ Fit c ∧ Fit (tot + c) ∧ Nx (tot + c) H4 else Nx tot H3)
section
variable {X : L2.Cx} {pins : List (Addr × Obj)} {σ : L2.St} {H : Hp} {s : Shared}
theorem inv_slS {Y : L2.Cx} {pins : List (Addr × Obj)} {σ : L2.St} {H : Hp} {s s' : Shared} {S : Addr} {b : Int} (I : Inv Y pins σ H s) (h : SlS S b s s') (f : FpOk Y pins H S) : Inv Y pins σ H s' :=
  inv_sl (I.turnedL (ch := [S]) (h' := s'.heap) (t' := s'.toks) (fun x o hx e => h.heap x o (by simpa using hx) e) fun x hx => by rw [List.mem_singleton.mp hx]; exact f) ⟨h.os, h.bare, rfl⟩
theorem pe_sum {c P : Addr} {elt tg iter : Expr} {ifs : List Expr} {x : Str} {p pos gpos : Pos} {scope : Scope} {own : List (Str × Nat)} {wi : TI} {g : TG} {tt : TT} {te : TE} {k : Nat}
    (hr : Room (k + 3) X.A) (hc : X.calm = true) (hN : X.N.Nodup) (hgl : Gl X "sum") (hm : X.mg "sum" = none) (TB : GxR.TabB X.base X.mg c P) (hcode : X.env.code = .ref c) (GS : GxR.GenS X.env scope x) (ok : BlkOk X.N X.env.scope scope own)
    (hi : PI X tg iter wi)
    (target : ∀ (B : Around) (s : Shared) (H : Hp) (C : Addr) (code : Value) (fp : List Addr) (pn : List (Addr × Obj)), Room k B → PG (gcx X B s H (genEnv scope (cloFrom X.env.cells scope.names []) C code builtinsNs X.env) fp pn) tg g)
    (tests : ∀ (B : Around) (s : Shared) (H : Hp) (C : Addr) (code : Value) (fp : List Addr) (pn : List (Addr × Obj)), Room k B → PTs (gcx X B s H (genEnv scope (cloFrom X.env.cells scope.names []) C code builtinsNs X.env) fp pn) ifs tt)
    (elem : ∀ (B : Around) (s : Shared) (H : Hp) (C : Addr) (code : Value) (fp : List Addr) (pn : List (Addr × Obj)), Room k B → PE (gcx X B s H (genEnv scope (cloFrom X.env.cells scope.names []) C code builtinsNs X.env) fp pn) elt te)
    (hs : ∀ v, genFold iter X.env v = pure v)
    (he : starEach [.GeneratorExp elt [⟨tg, iter, ifs, 0⟩] scope gpos] X.env = (false, eval (.GeneratorExp elt [⟨tg, iter, ifs, 0⟩] scope gpos) X.env) :: starEach [] X.env := by rfl) :
    PE X (.Call (.Name "sum" p) [.GeneratorExp elt [⟨tg, iter, ifs, 0⟩] scope gpos] [] pos) (tSum wi g tt te (own.map (·.2)) P) := by
  refine ⟨fun pins s σ H Q I h => ?_⟩
  have frames := I.ok.frames
  have hb : bootBuiltins "sum" = some (.builtin "sum") := by decide +kernel
  refine wpAny_Call_Name_kw (ld_blt I hgl hm hb ?_ (by decide) (by decide))
  refine PyProof.Rows.callWith_builtin1 ?_ he (by rfl)
  rw [he]
  show wpAny _ _ (spliced ((false, eval (.GeneratorExp elt [⟨tg, iter, ifs, 0⟩] scope gpos) X.env) :: backTo pos (starEach [] X.env))) _ _ s
  refine Calls.spliced_cons (gen_make hr TB hcode GS hi hs I h fun it fp tn J H1 H2 code C a gi s4 s5 q tab I4 hC keep os st4 I5 T st5 f2 hns fC hCf hgen fa haf haC hgs => ?_)
  refine Calls.spliced_nil ?_
  obtain ⟨W, ⟨m0, w0⟩, turn⟩ := q H2 tab
  subst hC
  have lt4 : ∀ b ∈ fp, b < s4.heap.objs.size := fun b hb => by
    obtain ⟨o, ho, _⟩ := T.obj _ _ st4 b hb
    exact Heap.lt_size ho
  have C5 : s4.heap.objs.size < s5.heap.objs.size := hns.lt
  have a5 : a < s5.heap.objs.size := by
    obtain ⟨o, nm, qn, ho, r⟩ := id hgen
    exact Heap.lt_size ho
  have st5lt : cStatics < s5.heap.objs.size := by
    obtain ⟨mc, hn, _⟩ := I5.nolimit
    exact hn.lt
  obtain ⟨ga, gnm, gqn, gho, gcl, gdt, gsl⟩ := id hgen
  refine call_sum_gen (m := m0 + 1) (Q := fun u s' => ∃ v H', Inv X pins σ H' s' ∧ RelV v u ∧ Q v H') hr.hd (by have := hr.dp; omega) hgen st5lt fun t tk => ?_
  have I6 : Inv X pins σ H2 { s5 with heap := s5.heap.push (ownL 0 t 0), toks := tk } := I5.kept (t' := tk) fun b o e => Heap.get?_push_of_some _ e
  have hS : (s5.heap.push (ownL 0 t 0)).get? s5.heap.objs.size = some (ownL 0 t 0) := Heap.get?_push_size _ rfl
  have fS : FpOk X pins H2 s5.heap.objs.size := I5.fpOk (Nat.le_refl _) (I5.hok.fresh (Nat.le_refl _))
  have keep6 : ∀ b o, s5.heap.get? b = some o → (s5.heap.push (ownL 0 t 0)).get? b = some o := fun b o e => Heap.get?_push_of_some _ e
  have Sfp : s5.heap.objs.size ∉ fp := fun z => absurd (Nat.lt_trans (lt4 _ z) C5) (Nat.lt_irrefl _)
  have aS : a ≠ s5.heap.objs.size := Nat.ne_of_lt a5
  have f2S : ∀ b ∈ s5.heap.objs.size :: fp, FpOk X pins H2 b := fun b hb => by
    rcases List.mem_cons.mp hb with rfl | hb
    · exact fS
    · exact f2 b hb
  have st6 : tn 0 (s5.heap.push (ownL 0 t 0)) := T.keep _ _ _ st5 fun b _ o e => keep6 b o e
  have fpt : ∀ {i : Nat} {h : Heap}, tn i h → (∃ tot t c, h.get? s5.heap.objs.size = some (ownL tot t c)) → ∀ b ∈ s5.heap.objs.size :: fp, ∃ o, h.get? b = some o ∧ ∀ v, o.data ≠ .cell v := fun {i h} ht hz b hb => by
    rcases List.mem_cons.mp hb with rfl | hb
    · obtain ⟨tot, t, c, e⟩ := hz
      exact ⟨_, e, fun v z => by cases z⟩
    · exact T.obj _ _ ht b hb
  generalize s5.heap.objs.size = S at *
  have rb : Room k (X.A.in1.in1.over (.compLoop (.GeneratorExp elt [⟨tg, iter, ifs, 0⟩] scope gpos) 0 (.ref it) .none (genEnv scope (cloFrom X.env.cells scope.names []) s4.heap.objs.size code builtinsNs X.env)) []) := ⟨hr.hd, by
    have := hr.dp
    show X.A.depth + 1 + 3 * k + 5 < recursionLimit
    omega, by
    have := hr.un
    show X.A.units + 5 + 16 * k + 200 < cLine
    omega⟩
  have start := gx_start (code := code) (it := .ref it) (own := own) (fp := S :: fp) (pn := [(a, ga)]) I4 I6 ok hN GS.cell hc (B := X.A.in1.in1.over (.compLoop (.GeneratorExp elt [⟨tg, iter, ifs, 0⟩] scope gpos) 0 (.ref it) .none (genEnv scope (cloFrom X.env.cells scope.names []) s4.heap.objs.size code builtinsNs X.env)) [])
    hr.hd (gx_frames rfl frames) (fun b hb => ⟨f2S b hb, by
      rcases List.mem_cons.mp hb with rfl | hb
      · exact Nat.ne_of_gt C5
      · exact Nat.ne_of_lt (lt4 b hb)⟩) (fun b o e => keep6 b o (keep b o e)) os (hns.push _) (fun p hp => by
      rw [List.mem_singleton.mp hp]
      refine ⟨keep6 _ _ gho, fa.1, haC, fun z => ?_, fun v z => ?_⟩
      · rcases List.mem_cons.mp (I4.stkSub a z) with z | z
        · exact fa.2.1 z
        · exact fa.2.2.1 z
      · rw [gdt] at z; cases z)
  have hgen6 : (s5.heap.push (ownL 0 t 0)).IsGen a gi := ⟨ga, gnm, gqn, keep6 _ _ gho, gcl, gdt, gsl⟩
  refine ⟨hgen6, I6.nolimit, I6.bare, _, hgs, rfl, seg_rg (seg_start (fun B Q E hq => T.self B 0 _ Q E st6 hq) (seg_loop rfl GS.co
    (fun m s₀ s => ∃ i H' tot t1 c1 t2 c2, Inv (gcx X (X.A.in1.in1.over (.compLoop (.GeneratorExp elt [⟨tg, iter, ifs, 0⟩] scope gpos) 0 (.ref it) .none (genEnv scope (cloFrom X.env.cells scope.names []) s4.heap.objs.size code builtinsNs X.env)) []) s4 H2 (genEnv scope (cloFrom X.env.cells scope.names []) s4.heap.objs.size code builtinsNs X.env) (S :: fp) [(a, ga)]) [] (wipe σ (own.map (·.2))) H' s ∧
      tn i s.heap ∧ (∀ b ∈ S :: fp, H' b = none) ∧ s₀.heap.get? S = some (ownL tot t1 c1) ∧ s.heap.get? S = some (ownL tot t2 c2) ∧ W i m tot H') ?_ m0 (m0 + 1) _ _ (Nat.lt_succ_self _) ⟨0, H2, 0, t, 0, t, 0, ?_, st6, fun b hb => (f2S b hb).1, hS, hS, w0⟩))⟩
  · generalize hBB : X.A.in1.in1.over (.compLoop (.GeneratorExp elt [⟨tg, iter, ifs, 0⟩] scope gpos) 0 (.ref it) .none (genEnv scope (cloFrom X.env.cells scope.names []) s4.heap.objs.size code builtinsNs X.env)) [] = B at rb ⊢
    have pg := target B s4 H2 s4.heap.objs.size code (S :: fp) [(a, ga)] rb
    have pt := tests B s4 H2 s4.heap.objs.size code (S :: fp) [(a, ga)] rb
    have pe := elem B s4 H2 s4.heap.objs.size code (S :: fp) [(a, ga)] rb
    have stat : ∀ {σ' : L2.St} {H' : Hp} {s' : Shared} {ps : List (Addr × Obj)}, Inv (gcx X B s4 H2 (genEnv scope (cloFrom X.env.cells scope.names []) s4.heap.objs.size code builtinsNs X.env) (S :: fp) [(a, ga)]) ps σ' H' s' → ∀ b ∈ S :: fp, H' b = none → (∀ p ∈ ps, p.1 ≠ b) → FpOk (gcx X B s4 H2 (genEnv scope (cloFrom X.env.cells scope.names []) s4.heap.objs.size code builtinsNs X.env) (S :: fp) [(a, ga)]) ps H' b := fun {σ' H' s' ps} J b hb hn hp =>
      ⟨hn, (J.ok.exf b hb).1, J.ok.exfs b hb, .inl hb, fun x c e => (J.ok.exf b hb).2 x c e, fun p hp' => by
        rcases List.mem_append.mp hp' with z | z
        · rw [List.mem_singleton.mp z]
          intro e
          rcases List.mem_cons.mp hb with e' | e'
          · exact aS (by rw [← e']; exact e)
          · exact haf (by rw [show a = b from e]; exact e')
        · exact hp p z⟩
    have inS : S ∈ S :: fp := List.mem_cons_self
    have inF : ∀ b ∈ fp, b ∈ S :: fp := fun b hb => List.mem_cons_of_mem _ hb
    rintro m s₀ s5' ⟨i, H5, tot, t1, c1, t2, c2, I5', st5', n5, k0, k5, w5⟩
    -- the list of the total stands through the turn
    have Ip := I5'.pinned (fp := [S]) (fun b hb => by rw [List.mem_singleton.mp hb]; exact stat I5' S inS (n5 S inS) (fun p hp => by cases hp)) (fun b hb => by rw [List.mem_singleton.mp hb]; exact ⟨_, k5, fun v z => by cases z⟩)
    have pS : (S, ownL tot t2 c2) ∈ ([] : List (Addr × Obj)) ++ pinsAt [S] s5'.heap := List.mem_append_right _ (mem_pinsAt (List.mem_singleton.mpr rfl) k5)
    have only : ∀ p ∈ ([] : List (Addr × Obj)) ++ pinsAt [S] s5'.heap, p.1 = S := fun p hp => by
      rcases List.mem_append.mp hp with z | z
      · cases z
      · exact List.mem_singleton.mp (of_pinsAt z).1
    have statF : ∀ {σ' : L2.St} {H' : Hp} {s' : Shared}, Inv (gcx X B s4 H2 (genEnv scope (cloFrom X.env.cells scope.names []) s4.heap.objs.size code builtinsNs X.env) (S :: fp) [(a, ga)]) (([] : List (Addr × Obj)) ++ pinsAt [S] s5'.heap) σ' H' s' → (∀ b ∈ fp, H' b = none) → ∀ b ∈ fp, FpOk (gcx X B s4 H2 (genEnv scope (cloFrom X.env.cells scope.names []) s4.heap.objs.size code builtinsNs X.env) (S :: fp) [(a, ga)]) (([] : List (Addr × Obj)) ++ pinsAt [S] s5'.heap) H' b := fun {σ' H' s'} J hn b hb =>
      stat J b (inF b hb) (hn b hb) fun p hp e => Sfp (by rw [← only p hp, e]; exact hb)
    rcases turn i m tot H5 w5 with ⟨stop_, qq⟩ | ⟨go, Nx, hNx, step⟩
    · refine thnF (T.done (gcx X B s4 H2 (genEnv scope (cloFrom X.env.cells scope.names []) s4.heap.objs.size code builtinsNs X.env) (S :: fp) [(a, ga)]) rfl rfl rfl hc i _ s5' _ H5 (fun _ _ => False) Ip (statF Ip fun b hb => n5 b (inF b hb)) st5' stop_) fun r s6 ⟨hr6, J6⟩ => ?_
      subst hr6
      exact ⟨J6.bare, tot, t1, c1, k0, fun s' ex t => ⟨.int tot, H5, gx_back I4 f2S J6 ex, ⟨t, rfl⟩, qq⟩⟩
    · refine thnF (T.item (gcx X B s4 H2 (genEnv scope (cloFrom X.env.cells scope.names []) s4.heap.objs.size code builtinsNs X.env) (S :: fp) [(a, ga)]) rfl rfl rfl hc i _ s5' _ H5 (fun _ _ => False) Ip (statF Ip fun b hb => n5 b (inF b hb)) st5' go) fun r s6 ⟨u, hr6, h6⟩ => ?_
      subst hr6
      refine thnF h6 fun _ s7 ⟨x, H7, J7, r7, y7, st7, n7⟩ => ?_
      have J7' := J7.pinned (statF J7 n7) (T.obj _ _ st7)
      refine thnF (pg.run _ s7 _ H7 x u _ J7' r7 (step x H7 y7)) fun _ s8 ⟨σ8, H8, J8, hw8, q8⟩ => ?_
      refine thnF (pt.run _ s8 σ8 H8 _ J8 q8) fun b s9 ⟨H9, J9, q9⟩ => ?_
      have ends : ∀ {s' : Shared} {H' : Hp} {tot' : Int}, Inv (gcx X B s4 H2 (genEnv scope (cloFrom X.env.cells scope.names []) s4.heap.objs.size code builtinsNs X.env) (S :: fp) [(a, ga)]) ((([] : List (Addr × Obj)) ++ pinsAt [S] s5'.heap) ++ pinsAt fp s7.heap) σ8 H' s' → Nx tot' H' → s'.heap.get? S = some (ownL tot t2 c2) ∧ ∃ m', m' < m ∧ ∃ i H', Inv (gcx X B s4 H2 (genEnv scope (cloFrom X.env.cells scope.names []) s4.heap.objs.size code builtinsNs X.env) (S :: fp) [(a, ga)]) [] (wipe σ (own.map (·.2))) H' s' ∧ tn i s'.heap ∧ (∀ b ∈ S :: fp, H' b = none) ∧ W i m' tot' H' := fun {s' H' tot'} J nx => by
        obtain ⟨m', less, w'⟩ := hNx tot' H' nx
        have zS := J.pin (S, ownL tot t2 c2) (List.mem_append_right _ (List.mem_append_left _ pS))
        have pin' : ∀ b ∈ fp, ∀ o, s7.heap.get? b = some o → s'.heap.get? b = some o ∧ H' b = none := fun b hb o e =>
          let z := J.pin (b, o) (List.mem_append_right _ (List.mem_append_right _ (mem_pinsAt hb e)))
          ⟨z.1, z.2.1⟩
        have hl : (wipe σ (own.map (·.2))).length = σ8.length := by rw [← hw8, wipe_length]
        refine ⟨zS.1, m', less, i + 1, H', ((J.unpinned (pins := ([] : List (Addr × Obj)) ++ pinsAt [S] s5'.heap)).unpinned (pins := [])).weak hl (fun j v e => ?_), T.keep _ _ _ st7 fun b hb o e => (pin' b hb o e).1, fun b hb => ?_, w'⟩
        · rw [← hw8] at e
          exact (wipe_some e).1
        · rcases List.mem_cons.mp hb with rfl | hb
          · exact zS.2.1
          · obtain ⟨o, e, _⟩ := T.obj _ _ st7 b hb
            exact (pin' b hb o e).2
      cases b with
      | false =>
        simp only [Bool.false_eq_true, if_false] at q9 ⊢
        obtain ⟨kS, m', less, i', H', J', tn', n', w'⟩ := ends J9 q9
        exact ⟨m', less, i', H', tot, t1, c1, t2, c2, J', tn', n', k0, kS, w'⟩
      | true =>
        simp only [if_true] at q9 ⊢
        refine thnF (pe.run _ s9 σ8 H9 _ J9 q9) fun z s10 ⟨yv, H10, J10, r10, b10, e10, f1, f2', q10⟩ => ?_
        subst e10
        obtain ⟨tz, r10⟩ : ∃ t, z = .int b10 t := r10
        obtain ⟨kS, m', less, i', H', J', tn', n', w'⟩ := ends J10 q10
        refine ⟨⟨b10, tz, tot, t1, c1, t2, c2, r10, f1, f2', k0, kS, ⟨ga, gnm, gqn, (J10.pin (a, ga) (by simp)).1, gcl, gdt, gsl⟩, J10.nolimit, J10.bare⟩, fun _ => ⟨m', less, fun s' hs' => ?_⟩⟩
        have z := hs' b10 tz r10
        obtain ⟨t3, c3, k3⟩ := z.own tot t2 c2 kS
        exact ⟨i', H', tot + b10, t3, c3, t3, c3, inv_slS J' z (stat J' S inS (n' S inS) fun p hp => by cases hp), T.keep _ _ _ tn' fun b hb o e => z.heap b o (fun q => Sfp (by rw [← q]; exact hb)) e, n', k3, k3, w'⟩
  · exact inv_sl start ⟨rfl, allBare_setGen I6.bare rfl, rfl⟩
end
end Gx
end PySem
namespace PySem
namespace Gx
open PySem.W PySem.Calls PyProof.Rows L2 GenW
/-- Pv: what is true ahead of each turn, with the total -/
theorem sum_walk {J : It} {n : Nat} {G : Hp → Prop} {Y : Nat → Hp → V → Hp → Prop} {g : TG} {tt : TT} {te : TE} {vs : List Nat} {σ : L2.St} {Hs : Hp} {Q : VK} (w : Walk J n G Y) (Pv : Nat → Int → Hp → Prop) (first : Pv 0 0 Hs) (stands : ∀ i t H, Pv i t H → G H)
    (turn : ∀ i t x H H', i < n → Pv i t H → Y i H x H' → g x (wipe σ vs) H' fun σ2 H2 => wipe σ2 vs = wipe σ vs ∧ tt σ2 H2 fun b H3 => if b = true then te σ2 H3 fun y H4 => ∃ c, y = .int c ∧ Fit c ∧ Fit (t + c) ∧ Pv (i + 1) (t + c) H4 else Pv (i + 1) t H3)
    (last : ∀ t H, Pv n t H → Q (.int t) H) : ∃ W : Nat → Nat → Int → Hp → Prop, (∃ m, W 0 m 0 Hs) ∧ ∀ i m tot H, W i m tot H →
      (J.stop i H ∧ Q (.int tot) H) ∨ (J.go i H ∧ ∃ Nx : Int → Hp → Prop, (∀ t' H', Nx t' H' → ∃ m', m' < m ∧ W (i + 1) m' t' H') ∧ ∀ x H', J.yld i H x H' → g x (wipe σ vs) H' fun σ2 H2 => wipe σ2 vs = wipe σ vs ∧ tt σ2 H2 fun b H3 =>
        if b = true then te σ2 H3 fun y H4 => ∃ c, y = .int c ∧ Fit c ∧ Fit (tot + c) ∧ Nx (tot + c) H4 else Nx tot H3) := by
  refine ⟨fun i left t H => i + left = n ∧ Pv i t H, ⟨n, Nat.zero_add n, first⟩, fun i left t H here => ?_⟩
  obtain ⟨count, now⟩ := here
  cases left with
  | zero =>
    obtain rfl : i = n := count
    exact .inl ⟨w.stops H (stands _ _ H now), last _ H now⟩
  | succ fewer =>
    have more : i < n := by omega
    exact .inr ⟨w.goes i H more (stands _ _ H now), Pv (i + 1), fun t' H' then_ => ⟨fewer, Nat.lt_succ_self fewer, by omega, then_⟩, fun x H' given => turn i t x H H' more now (w.yields i H x H' more (stands _ _ H now) given)⟩
/-- what follows, by a name -/
theorem gen_named {stop : Bool} {wi : TI} {g : TG} {tt : TT} {te : TE} {vs : List Nat} {P : Addr} {σ : L2.St} {H : Hp} {Q : VK} (h : ∀ Q' : VK, (∀ v H, Q' v H = Q v H) → tGen stop wi g tt te vs P σ H Q') : tGen stop wi g tt te vs P σ H Q := h Q fun _ _ => rfl
theorem sum_named {wi : TI} {g : TG} {tt : TT} {te : TE} {vs : List Nat} {P : Addr} {σ : L2.St} {H : Hp} {Q : VK} (h : ∀ Q' : VK, (∀ v H, Q' v H = Q v H) → tSum wi g tt te vs P σ H Q') : tSum wi g tt te vs P σ H Q := h Q fun _ _ => rfl
theorem not_named {te : TE} {σ : L2.St} {H : Hp} {k : Bool → Hp → Prop} (h : te σ H fun x H1 => ∃ c, x = .bl c ∧ k (!c) H1) : tNot (tB te) σ H k := h
theorem test_named {r : R2} {ta te : TE} {σ : L2.St} {H : Hp} {k : Bool → Hp → Prop} (h : ta σ H fun x H1 => te σ H1 fun y H2 => r x y H2 fun v H3 => ∃ c, v = .bl c ∧ k c H3) : tTest (tOp r ta te) σ H k := h
theorem step_sum {r : R2} {tb : TE} {t u v : TS} {D : Ends} {wi : TI} {g : TG} {tt : TT} {te : TE} {vs : List Nat} {P : Addr} {σ : L2.St} {H : Hp}
    (h : ∀ Q' : VK, (∀ x H1, Q' x H1 = tb σ H1 fun y H2 => r x y H2 fun z H3 => ∃ c, z = .bl c ∧ if c = true then t { D with nx := v D } σ H3 else u { D with nx := v D } σ H3) → tSum wi g tt te vs P σ H Q') : tSeq (tIfS (tTest (tOp r (tSum wi g tt te vs P) tb)) t u) v D σ H := h _ fun _ _ => rfl
end Gx
end PySem
namespace PySem
namespace Gx
open PySem PySem.W PySem.Calls PyProof.Rows L2 GenW
/-- the names of a generator expression, checked -/
theorem genS_by {env : Env} {scope : Scope} {x : Str} (h1 : scope.kind = .function) (h2 : scope.isCoroutine = false) (h3 : (scope.names.all fun y => match y.2 with | .cell => false | _ => true) = true) (h4 : scope.names.lookup (".0" : Str) = some NameKind.local)
    (h5 : scope.names.lookup x = some .local) (h6 : (scope.names.all fun y => match y.2 with | .free => (env.cells.lookup y.1).isSome | _ => true) = true) : GxR.GenS env scope x where
  kind := h1
  co := h2
  cell := fun y hy z => by
    have := List.all_eq_true.mp h3 y hy
    rw [z] at this
    cases this
  dot := h4
  loc := h5
  free := fun y hy z => by
    have := List.all_eq_true.mp h6 y hy
    rw [z] at this
    exact Option.isSome_iff_exists.mp this
theorem walk_zipT {K : PySem.W.Frag} {a b : Addr} {xs ys : List V} {n : Nat} (hn : n = min xs.length ys.length) : Walk (RZ.ItzT K a b) n (fun H => SqT K H a xs ∧ SqT K H b ys) (YPair (fun i => xs[i]?) (fun i => ys[i]?)) := by
  subst hn
  refine ⟨fun i _ hi q => ?_, fun _ q => ⟨xs, ys, q.1, q.2, by omega⟩, fun i H v H' _ q y => ?_⟩
  · have h1 : i < xs.length := by omega
    have h2 : i < ys.length := by omega
    exact ⟨xs, ys, xs[i], ys[i], q.1, q.2, by simp [h1], by simp [h2]⟩
  · obtain ⟨T, x, z, h1, h2, h3, h4, h5⟩ := y
    exact ⟨T, x, z, h1, h2, h3, h4 xs q.1, h5 ys q.2⟩
end Gx
end PySem
namespace My
open PySem L2 PySem.Spec PyProof.Rows
theorem yesI {σ : L2.St} {H : Hp} {F : Bool → Hp → Prop} (h : F true H) : tYes σ H F := h
/-- a sum of tuples, wherever it stands -/
theorem catA_of {K : PySem.W.Frag} {H : Hp} {Q : VK} {a b : Addr} {xs ys : List V} (hx : SqT K H a xs) (hy : SqT K H b ys) (hl : xs.length + ys.length ≤ sizeLine) (k : ∀ p H', Same H H' → SqT K H' p (xs ++ ys) → Q (.ref p) H') : rCatA K (.ref a) (.ref b) H Q := by
  refine ⟨a, b, xs, ys, rfl, rfl, hx, hy, hl, fun e => ?_, fun _ e => ?_, fun _ _ p hp => k p _ (same_new hp) tHere⟩
  · subst e; exact k b H (Same.refl _) hy
  · subst e; exact k a H (Same.refl _) (by rw [List.append_nil]; exact hx)
theorem cut_whole {xs : List V} {lo hi : Option Int} (h : HT.sIx xs.length 0 lo = 0 ∧ HT.sIx xs.length xs.length hi = xs.length) : cutV xs lo hi = xs := by
  unfold cutV
  rw [h.1, h.2]
  simp
theorem slA_of {K : PySem.W.Frag} {H : Hp} {Q : VK} {a : Addr} {xs : List V} {lo hi : Option Int} (hx : SqT K H a xs) (k : ∀ p H', Same H H' → SqT K H' p (cutV xs lo hi) → Q (.ref p) H') : rSlA K (.ref a) lo hi H Q :=
  ⟨a, xs, rfl, hx, fun h => k a H (Same.refl _) (by rw [cut_whole h]; exact hx), fun _ p hp => k p _ (same_new hp) tHere⟩
/-- both ways lead on -/
theorem iteR {c : Prop} [Decidable c] {R A B : Prop} (r : R) (hB : ¬ c → R → B) (hA : c → R → A) : if c then A else B := by
  by_cases h : c
  · rw [if_pos h]; exact hA h r
  · rw [if_neg h]; exact hB h r
theorem pe_gS {X : Cx} {x : Str} {z : Str} {pos : Pos} (hm : ∃ t, X.mg x = some (.str z t)) (hg : Gl X x := by rfl) (hd : (x == ("__debug__" : Str)) = false := by decide) (hcd : (x == ("__classdict__" : Str)) = false := by decide) : PE X (.Name x pos) (tC (.str z)) := by
  obtain ⟨t, e⟩ := hm
  exact pe_glob hg e ⟨t, rfl⟩ hd
/-- a def of which the code object is known -/
structure FunT (K : PySem.W.Frag) (x qual : Str) (st : Stmt) (f : Addr) (fd : FuncData) (c : Addr) : Prop where
  ex : ∃ (oc : Value) (od : Option Addr) (kV doc pm : Value) (an : Option Addr) (ct : Value) (osl : Array (Option Value)),
    fd = PySem.W.fnOf x qual (defArgs st) (defBody st) (defScope st) .none kV doc pm an (.ref c) ct ∧ K.lookup f = some ⟨oc, od, .func fd, osl⟩ ∧ PySem.W.codeIn K (.ref c) qual = true
  kp : PySem.W.keepIn K (.ref f) = true
theorem FunT.toFun {K : PySem.W.Frag} {x qual : Str} {st : Stmt} {f : Addr} {fd : FuncData} {c : Addr} (F : FunT K x qual st f fd c) : Fun K x qual st f fd := by
  obtain ⟨⟨oc, od, kV, doc, pm, an, ct, osl, h⟩, kp⟩ := F
  exact ⟨⟨oc, od, kV, doc, pm, an, _, ct, osl, h⟩, kp⟩
theorem funT_mk {K : PySem.W.Frag} {x qual : Str} {st : Stmt} {f c : Addr} {oc : Value} {od an : Option Addr} {osl : Array (Option Value)} {kV doc pm cdv ct : Value} (l : K.lookup f = some ⟨oc, od, .func (PySem.W.fnOf x qual (defArgs st) (defBody st) (defScope st) .none kV doc pm an cdv ct), osl⟩)
    (h : PySem.W.codeIn K cdv qual = true) (k : PySem.W.keepIn K (.ref f) = true) (e : cdv = .ref c) : FunT K x qual st f (PySem.W.fnOf x qual (defArgs st) (defBody st) (defScope st) .none kV doc pm an cdv ct) c := by
  subst e
  exact ⟨⟨oc, od, kV, doc, pm, an, ct, osl, rfl, l, h⟩, k⟩
section
variable {P : Program} {w : World} {K : PySem.W.Frag} {mg : Str → Option Value} {base : Heap}
theorem FunT.ok {x qual : Str} {st : Stmt} {f c : Addr} {fd : FuncData} {N ps : List Str} {k : Nat} {sp : Sp} (F : FunT K x qual st f fd c) (S : FnScope N ps (defScope st)) (len : ∀ vs H Q E, sp vs H Q E → vs.length = ps.length)
    (hbody : ∀ (A : Around) (outer : List Env) (s : Shared) (H : Hp) (vs : List V) (Q : VK) (E : XK), Room k (A.deeper (envOfC qual (defScope st) s.heap.objs.size f (.ref c))) → sp vs H Q E →
      ∃ t, PSs (cxOf CX0 P w K mg base N qual (defScope st) f (.ref c) A outer s H E).nox (defBody st) t ∧ t { nx := fun _ H' => Q .non H', rt := Q } (start N vs) H) : FnOk P w K mg base CX0 (k + 1) f fd ps sp := by
  obtain ⟨oc, od, kV, doc, pm, an, ct, osl, rfl, lk, hcd⟩ := F.ex
  refine fn_of lk hcd S len fun A outer s H vs Q E hr hsp => ?_
  obtain ⟨t, h, q⟩ := hbody A outer s H vs Q E hr hsp
  exact ⟨t, h.nox, q⟩
end
/-- a def's code object and its table, from what stands in the part that is written out -/
theorem tabIn_of {K : PySem.W.Frag} {x : Str} {f c P : Addr} {oc t1 cdv : Value} {od t2 : Option Addr} {fd : FuncData} {osl t3 : Array (Option Value)} {vs : Array Value} (a : PySem.W.nsIn K mainGlobals x = some (some (.ref f))) (l : K.lookup f = some ⟨oc, od, .func fd, osl⟩) (hc : fd.code = cdv) (e : cdv = .ref c)
    (o : K.lookup c = some ⟨t1, t2, .fields vs, t3⟩) (v : (vs[11]? : Option Value) = some (.ref P)) : PySem.W.tabIn K x = some (c, P) := by
  unfold PySem.W.tabIn
  rw [a]
  show (match K.lookup f with | some ⟨_, _, .func fd, _⟩ => _ | _ => none) = _
  rw [l]
  show (match fd.code with | .ref c => _ | _ => none) = _
  rw [hc, e]
  show (match K.lookup c with | some ⟨_, _, .fields vs, _⟩ => _ | _ => none) = _
  rw [o]
  show (match (vs[11]? : Option Value) with | some (.ref P) => _ | _ => none) = _
  rw [v]
/-- a law with tables: what its promise asks -/
def spLawT (K : PySem.W.Frag) (ts : List Addr) : Sp := fun vs H Q _ => ∃ (a : Addr) (ns : List Int), vs = [.ref a] ∧ SqL K H a (ns.map V.int) ∧ ns.length ≤ 63 ∧ Tbs ts H ∧ ∀ H', Q (.bl true) H'
/-- what is known of the tables at the head -/
def TabsOf (q : Program) (K : PySem.W.Frag) (h : Heap) : Prop := ∀ (x : Str) (c P : Addr), ((recsOf q).any fun e => e.name == x) = true → PySem.W.tabIn K x = some (c, P) → PySem.W.CodeHd h c P ∧ h.get? P = some (PySem.W.tabObj #[])
theorem walkT {l : PySem.W.OpenLaw} {q : Program} {loose : List Str} {XP : (Str → Option Value) → Heap → Prop} {YP : World → Heap → Prop} {d : DefRec} {K : Params → PySem.W.Frag} {k : Nat} (hr : Room k callerA) (hn : l.most = some 63) (hdf : d.params.defaults = [])
    (hY : ∀ (w : World) (h : Heap), YP w h → (K w.params).In h)
    (F : ∀ (w : World) (mg : Str → Option Value) (fa : Addr) (h : Heap), TabsOf q (K w.params) h → (K w.params).In h → h.Ns mainGlobals mg → mg d.name = some (.ref fa) → LamX.LawAtS l w (K w.params) CX0 k 63 "script" mg fa h) :
    PySem.W.WalkO q loose XP YP l.row.toRowW d [] (fun f vs => PySem.call f vs) := by
  refine Att.attach_callB hn hdf fun w s₀ s₁ mg mb fa o pm cd doc a vs ns G Y ho hd hcd hmg hobj hints hlen hbits hg => ?_
  have KX := hY w _ Y
  obtain ⟨fd, cs, sp, hT, nT, C, hb, hsp, hF⟩ := F w mg fa _ (fun x c P hr ht => by
    obtain ⟨e, he⟩ := List.find?_isSome.mpr (List.any_eq_true.mp hr) |> Option.isSome_iff_exists.mp
    exact PySem.W.tab_of G.T KX he ht) KX G.T.g hmg
  exact LamX.law_callTs (CX := CX0) (k := k) (x := "script") KX G.T.g G.T.b G.T.builtins G.T.nolimit hg hT nT C G.T.bmain hobj hints (Nat.le_trans hlen (by decide)) hr hF hb (fun H hH hS => hsp H a ns hlen hbits hH hS) fun _ _ _ z => z
theorem tbs_nil {cs : List (Addr × Addr)} {ts : List Addr} {H : Hp} (e : cs.map (·.2) = ts) (h : ∀ p ∈ cs, H p.2 = some (.tbl #[])) : Tbs ts H := fun P hP => by
  subst e
  obtain ⟨p, hp, rfl⟩ := List.mem_map.mp hP
  exact ⟨#[], h p hp, True.intro⟩
end My
namespace My
open PySem L2
/-! ## looks, rules, styles as values -/
def betB (lo hi : Int) : V → Bool
  | .int i => decide (lo ≤ i) && decide (i ≤ hi)
  | _ => false
def LET : List Nat := (Str.ofString "abcdefghijklmnopqrstuvwxyz").cps.toList
def DIG : List Nat := (Str.ofString "0123456789").cps.toList
def headB : List Nat → Bool
  | c :: _ => decide (c ∈ LET)
  | [] => false
def nameB (s : Str) : Bool := (decide ((1 : Int) ≤ s.length) && decide ((s.length : Int) ≤ 12)) && (headB s.cps.toList && s.cps.toList.all fun c => decide (c ∈ LET) || decide (c ∈ DIG))
def nameV : V → Bool
  | .str s => nameB s
  | _ => false
def lookB : List V → Bool
  | [u, v] => betB 1 63 v && decide (u = .str "fill")
  | [u, v, x] => betB 1 63 v && ((decide (u = .str "stroke") || decide (u = .str "dot")) && betB 1 16 x)
  | _ => false
theorem lookB_ns {u v : V} {r : List V} (h : ∀ s, u ≠ .str s) : lookB (u :: v :: r) = false := by
  match r with
  | [] => show (betB 1 63 v && decide _) = false; rw [decide_eq_false (h _), Bool.and_false]
  | [x] => show (betB 1 63 v && ((decide _ || decide _) && betB 1 16 x)) = false; rw [decide_eq_false (h _), decide_eq_false (h _)]; simp
  | _ :: _ :: _ => rfl
theorem lookB_c {u v : V} {r : List V} (h : betB 1 63 v = false) : lookB (u :: v :: r) = false := by
  match r with
  | [] => show (betB 1 63 v && decide _) = false; rw [h, Bool.false_and]
  | [x] => show (betB 1 63 v && _) = false; rw [h, Bool.false_and]
  | _ :: _ :: _ => rfl
/-- the words that stand ahead -/
def lookU (xs : List V) : Prop := ∀ s r, xs = .str s :: r → s = "fill" ∨ s = "stroke" ∨ s = "dot" ∨ s = "paint"
def leV : V → V → Bool
  | .int i, .int j => decide (i ≤ j)
  | _, _ => false
def ruleB (k l m o : V) (c : Bool) : Bool := (nameV k || decide (k = .str "")) && (betB 0 6 l && (betB 0 6 m && (leV l m && (betB (-8) 8 o && c))))
section
variable {K : PySem.W.Frag} {H H' : Hp} {a p s D : Addr} {x v : V} {b c : Bool} {xs : List V} {o : HO}
/-- x is a value of which is_look is b -/
def LV (K : PySem.W.Frag) (H : Hp) (x : V) (b : Bool) : Prop := ∃ n, Ty K H x n ∧ (n = "tuple" → ∃ a xs, x = .ref a ∧ SqT K H a xs ∧ (∀ v ∈ xs, ∃ m, Ty K H v m) ∧ lookU xs ∧ b = lookB xs) ∧ (n ≠ "tuple" → b = false)
def RV (K : PySem.W.Frag) (H : Hp) (x : V) (b : Bool) : Prop := ∃ n, Ty K H x n ∧ (n = "tuple" → ∃ a xs, x = .ref a ∧ SqT K H a xs ∧ ((xs.length ≠ 5 ∧ b = false) ∨
  ∃ k l m o u c, xs = [k, l, m, o, u] ∧ (k = .non ∨ ∃ s : Str, k = .str s ∧ s.length ≤ 100) ∧ (∃ n, Ty K H l n) ∧ (∃ n, Ty K H m n) ∧ (∃ n, Ty K H o n) ∧ LV K H u c ∧ b = ruleB k l m o c)) ∧ (n ≠ "tuple" → b = false)
def StV (K : PySem.W.Frag) (H : Hp) (x : V) (b : Bool) : Prop := ∃ n, Ty K H x n ∧ (n = "tuple" → ∃ (a : Addr) (xs : List V) (bs : List Bool), x = .ref a ∧ SqT K H a xs ∧ xs.length ≤ 1000 ∧ bs.length = xs.length ∧
  (∀ (i : Nat) v c, xs[i]? = some v → bs[i]? = some c → RV K H v c) ∧ b = (decide ((xs.length : Int) ≤ 12) && bs.all id)) ∧ (n ≠ "tuple" → b = false)
theorem LV.same (e : Same H H') (h : LV K H x b) : LV K H' x b := by
  obtain ⟨n, t, h1, h2⟩ := h
  refine ⟨n, t.same e, fun q => ?_, h2⟩
  obtain ⟨a, xs, e1, e2, e3, e4⟩ := h1 q
  exact ⟨a, xs, e1, tSame e e2, fun v hv => (e3 v hv).imp fun _ h => h.same e, e4⟩
theorem RV.same (e : Same H H') (h : RV K H x b) : RV K H' x b := by
  obtain ⟨n, t, h1, h2⟩ := h
  refine ⟨n, t.same e, fun q => ?_, h2⟩
  obtain ⟨a, xs, e1, e2, e3⟩ := h1 q
  refine ⟨a, xs, e1, tSame e e2, e3.imp (fun z => z) ?_⟩
  rintro ⟨k, l, m, o, u, c, f1, f2, f3, f4, f5, f6, f7⟩
  exact ⟨k, l, m, o, u, c, f1, f2, f3.imp fun _ h => h.same e, f4.imp fun _ h => h.same e, f5.imp fun _ h => h.same e, f6.same e, f7⟩
/-- a good look -/
inductive Look : List V → Prop where
  | fill (c : Int) (h1 : 1 ≤ c) (h2 : c ≤ 63) : Look [.str "fill", .int c]
  | line (s : Str) (c w : Int) (hs : s = "stroke" ∨ s = "dot") (h1 : 1 ≤ c) (h2 : c ≤ 63) (h3 : 1 ≤ w) (h4 : w ≤ 16) : Look [.str s, .int c, .int w]
theorem two_ty {u v : V} {m n : String} (h1 : Ty K H u m) (h2 : Ty K H v n) : ∀ x ∈ [u, v], ∃ m, Ty K H x m := by
  intro x hx
  simp only [List.mem_cons, List.not_mem_nil, or_false] at hx
  rcases hx with rfl | rfl
  · exact ⟨_, h1⟩
  · exact ⟨_, h2⟩
theorem three_ty {u v z : V} {m n k : String} (h1 : Ty K H u m) (h2 : Ty K H v n) (h3 : Ty K H z k) : ∀ x ∈ [u, v, z], ∃ m, Ty K H x m := by
  intro x hx
  simp only [List.mem_cons, List.not_mem_nil, or_false] at hx
  rcases hx with rfl | rfl | rfl
  · exact ⟨_, h1⟩
  · exact ⟨_, h2⟩
  · exact ⟨_, h3⟩
theorem Look.ty (h : Look xs) : ∀ x ∈ xs, ∃ m, Ty K H x m := by
  cases h with
  | fill c _ _ => exact two_ty (.str _) (.int _)
  | line s c w _ _ _ _ _ => exact three_ty (.str _) (.int _) (.int _)
theorem Look.u (h : Look xs) : lookU xs := by
  intro s r e
  cases h with
  | fill c _ _ => injection e with e _; injection e with e; exact .inl e.symm
  | line z c w hs _ _ _ _ =>
    injection e with e _
    injection e with e
    subst e
    rcases hs with rfl | rfl
    · exact .inr (.inl rfl)
    · exact .inr (.inr (.inl rfl))
theorem betB_ok {lo hi i : Int} (h1 : lo ≤ i) (h2 : i ≤ hi) : betB lo hi (.int i) = true := by simp [betB, h1, h2]
theorem betB_no {lo hi i : Int} (h : i < lo ∨ hi < i) : betB lo hi (.int i) = false := by
  simp only [betB, Bool.and_eq_false_iff, decide_eq_false_iff_not]
  omega
theorem Look.ok (h : Look xs) : lookB xs = true := by
  cases h with
  | fill c h1 h2 => show (betB 1 63 (.int c) && decide _) = true; rw [betB_ok h1 h2]; rfl
  | line s c w hs h1 h2 h3 h4 =>
    show (betB 1 63 (.int c) && ((decide _ || decide _) && betB 1 16 (.int w))) = true
    rw [betB_ok h1 h2, betB_ok h3 h4]
    rcases hs with rfl | rfl <;> decide
theorem LV.of (h : SqT K H a xs) (hm : ∀ v ∈ xs, ∃ m, Ty K H v m) (hu : lookU xs) (e : lookB xs = b) : LV K H (.ref a) b := ⟨_, .tup h, fun _ => ⟨_, _, rfl, h, hm, hu, e.symm⟩, fun z => absurd rfl z⟩
theorem LV.good (h : SqT K H a xs) (g : Look xs) : LV K H (.ref a) true := .of h g.ty g.u g.ok
theorem LV.no {n : String} (h : Ty K H x n) (hn : n ≠ "tuple") : LV K H x false := ⟨n, h, fun q => absurd q hn, fun _ => rfl⟩
/-- a good rule -/
structure RuleAt (K : PySem.W.Frag) (H : Hp) (r : Addr) (k : Str) (l m o : Int) (u : Addr) (xs : List V) : Prop where
  r : SqT K H r [.str k, .int l, .int m, .int o, .ref u]
  u : SqT K H u xs
  look : Look xs
  k : k = "" ∨ k = "farm" ∨ k = "way" ∨ k = "pond"
  l0 : 0 ≤ l
  lm : l ≤ m
  m6 : m ≤ 6
  o1 : -8 ≤ o
  o2 : o ≤ 8
def RuleE (K : PySem.W.Frag) (H : Hp) (r : Addr) : Prop := ∃ k l m o u xs, RuleAt K H r k l m o u xs
theorem RuleE.same (e : Same H H') (h : RuleE K H a) : RuleE K H' a := by
  obtain ⟨k, l, m, o, u, xs, h⟩ := h
  exact ⟨k, l, m, o, u, xs, { h with r := tSame e h.r, u := tSame e h.u }⟩
theorem RuleE.but {b : Addr} (e : But s H H') (S : Strm H s b) (h : RuleE K H a) : RuleE K H' a := by
  obtain ⟨k, l, m, o, u, xs, h⟩ := h
  exact ⟨k, l, m, o, u, xs, { h with r := tButS e S h.r, u := tButS e S h.u }⟩
theorem RuleE.put (n : ∃ ys, H D = some (.lst ys)) (h : RuleE K H a) : RuleE K (upd H D o) a := by
  obtain ⟨k, l, m, o', u, xs, h⟩ := h
  exact ⟨k, l, m, o', u, xs, { h with r := tAt n h.r, u := tAt n h.u }⟩
theorem kind_ok {k : Str} (h : k = "" ∨ k = "farm" ∨ k = "way" ∨ k = "pond") : (nameV (.str k) || decide (V.str k = .str "")) = true ∧ k.length ≤ 100 := by
  rcases h with rfl | rfl | rfl | rfl <;> exact ⟨by decide +kernel, by decide +kernel⟩
theorem RuleE.rv (h : RuleE K H a) : RV K H (.ref a) true := by
  obtain ⟨k, l, m, o, u, xs, h⟩ := h
  refine ⟨_, .tup h.r, fun _ => ⟨_, _, rfl, h.r, .inr ⟨_, _, _, _, _, true, rfl, .inr ⟨_, rfl, (kind_ok h.k).2⟩, ⟨_, .int _⟩, ⟨_, .int _⟩, ⟨_, .int _⟩, .good h.u h.look, ?_⟩⟩, fun z => absurd rfl z⟩
  have := h.lm; have := h.l0; have := h.m6
  unfold ruleB
  rw [(kind_ok h.k).1, betB_ok h.l0 (show l ≤ 6 by omega), betB_ok (show 0 ≤ m by omega) h.m6, betB_ok h.o1 h.o2]
  simp [leV, h.lm]
theorem all_get {bs : List Bool} : bs.all id = true ↔ ∀ (i : Nat) c, bs[i]? = some c → c = true := by
  constructor
  · intro h i c e
    exact List.all_eq_true.mp h c (List.mem_of_getElem? e)
  · intro h
    rw [List.all_eq_true]
    intro c hc
    obtain ⟨i, e⟩ := List.getElem?_of_mem hc
    exact h i c e
/-- a tuple of good rules -/
theorem StV.good {rs : List Addr} (h : SqT K H a (rs.map V.ref)) (hr : ∀ r ∈ rs, RuleE K H r) (hl : rs.length ≤ 12) : StV K H (.ref a) true := by
  refine ⟨_, .tup h, fun _ => ⟨_, _, List.replicate rs.length true, rfl, h, by simp; omega, by simp, fun i v c e1 e2 => ?_, ?_⟩, fun z => absurd rfl z⟩
  · rw [List.getElem?_map] at e1
    obtain ⟨r, e3, rfl⟩ := Option.map_eq_some_iff.mp e1
    have : c = true := by
      have := List.mem_of_getElem? e2
      exact List.eq_of_mem_replicate this
    subst this
    exact (hr r (List.mem_of_getElem? e3)).rv
  · have e1 : decide (((rs.map V.ref).length : Int) ≤ 12) = true := decide_eq_true (by simp; omega)
    rw [e1, Bool.true_and]
    exact (List.all_eq_true.mpr fun x hx => List.eq_of_mem_replicate hx).symm
/-- too many -/
theorem StV.many {rs : List Addr} (h : SqT K H a (rs.map V.ref)) (hr : ∀ r ∈ rs, RuleE K H r) (hl : 12 < rs.length) (h2 : rs.length ≤ 1000) : StV K H (.ref a) false := by
  refine ⟨_, .tup h, fun _ => ⟨_, _, List.replicate rs.length true, rfl, h, by simpa using h2, by simp, fun i v c e1 e2 => ?_, ?_⟩, fun z => absurd rfl z⟩
  · rw [List.getElem?_map] at e1
    obtain ⟨r, e3, rfl⟩ := Option.map_eq_some_iff.mp e1
    have : c = true := List.eq_of_mem_replicate (List.mem_of_getElem? e2)
    subst this
    exact (hr r (List.mem_of_getElem? e3)).rv
  · have e1 : decide (((rs.map V.ref).length : Int) ≤ 12) = false := decide_eq_false (by simp; omega)
    rw [e1, Bool.false_and]
/-- one wrong rule -/
theorem StV.bad {us ws : List Addr} {v : V} (h : SqT K H a (us.map V.ref ++ v :: ws.map V.ref)) (hu : ∀ r ∈ us, RuleE K H r) (hv : RV K H v false) (hw : ∀ r ∈ ws, RuleE K H r) (h2 : us.length + ws.length ≤ 900) : StV K H (.ref a) false := by
  refine ⟨_, .tup h, fun _ => ⟨_, _, List.replicate us.length true ++ false :: List.replicate ws.length true, rfl, h, by simp; omega, by simp, fun i v' c e1 e2 => ?_, ?_⟩, fun z => absurd rfl z⟩
  · by_cases q : i < us.length
    · rw [List.getElem?_append_left (by simpa using q), List.getElem?_map] at e1
      rw [List.getElem?_append_left (by simpa using q)] at e2
      obtain ⟨r, e3, rfl⟩ := Option.map_eq_some_iff.mp e1
      have : c = true := List.eq_of_mem_replicate (List.mem_of_getElem? e2)
      subst this
      exact (hu r (List.mem_of_getElem? e3)).rv
    · rw [List.getElem?_append_right (by simp; omega)] at e1 e2
      simp only [List.length_map, List.length_replicate] at e1 e2
      generalize i - us.length = j at e1 e2
      cases j with
      | zero =>
        simp only [List.getElem?_cons_zero, Option.some.injEq] at e1 e2
        subst e1; subst e2
        exact hv
      | succ j =>
        simp only [List.getElem?_cons_succ] at e1 e2
        rw [List.getElem?_map] at e1
        obtain ⟨r, e3, rfl⟩ := Option.map_eq_some_iff.mp e1
        have : c = true := List.eq_of_mem_replicate (List.mem_of_getElem? e2)
        subst this
        exact (hw r (List.mem_of_getElem? e3)).rv
  · have e1 : (List.replicate us.length true ++ false :: List.replicate ws.length true).all id = false := by simp
    rw [e1, Bool.and_false]
theorem RV.bad {k l m o u : V} (h : SqT K H a [k, l, m, o, u]) (hk : k = .non ∨ ∃ s : Str, k = .str s ∧ s.length ≤ 100) (hl : ∃ n, Ty K H l n) (hm : ∃ n, Ty K H m n) (ho : ∃ n, Ty K H o n) (hu : LV K H u c) (e : ruleB k l m o c = false) : RV K H (.ref a) false :=
  ⟨_, .tup h, fun _ => ⟨_, _, rfl, h, .inr ⟨_, _, _, _, _, c, rfl, hk, hl, hm, ho, hu, e.symm⟩⟩, fun z => absurd rfl z⟩
theorem RV.no {n : String} (h : Ty K H x n) (hn : n ≠ "tuple") : RV K H x false := ⟨n, h, fun q => absurd q hn, fun _ => rfl⟩
theorem StV.no {n : String} (h : Ty K H x n) (hn : n ≠ "tuple") : StV K H x false := ⟨n, h, fun q => absurd q hn, fun _ => rfl⟩
theorem StV.same (e : Same H H') (h : StV K H x b) : StV K H' x b := by
  obtain ⟨n, t, h1, h2⟩ := h
  refine ⟨n, t.same e, fun q => ?_, h2⟩
  obtain ⟨a, xs, bs, e1, e2, e3, e4, e5, e6⟩ := h1 q
  exact ⟨a, xs, bs, e1, tSame e e2, e3, e4, fun i v c f1 f2 => (e5 i v c f1 f2).same e, e6⟩
/-! ## values that stay what they are while a stream is drawn -/
/-- scalars -/
def scB : V → Bool
  | .ref _ => false
  | _ => true
theorem sc_ty (h : xs.all (fun v => match v with | .int _ => true | .str _ => true | .bl _ => true | .non => true | _ => false) = true) : ∀ v ∈ xs, ∃ m, Ty K H v m := by
  intro v hv
  have := List.all_eq_true.mp h v hv
  cases v with
  | int i => exact ⟨_, .int i⟩
  | str z => exact ⟨_, .str z⟩
  | bl b => exact ⟨_, .bl b⟩
  | non => exact ⟨_, .non⟩
  | _ => cases this
def PB (R : Hp → V → Prop) (s : Addr) (H : Hp) (v : V) : Prop := ∀ H', But s H H' → R H' v
theorem PB.but {R : Hp → V → Prop} (h : PB R s H v) (e : But s H H') : PB R s H' v := fun H2 e2 => h H2 (e.trans e2)
theorem PB.here {R : Hp → V → Prop} (h : PB R s H v) : R H v := h H But.refl
structure BL (R : Hp → V → Prop) (H0 H : Hp) (s b : Addr) (vs : List V) : Prop where
  S : Strm H s b
  e : But s H0 H
  F : ∀ x ∈ vs, PB R s H x
theorem BL.nil {R : Hp → V → Prop} (S : Strm H s p) : BL R H H s p [] := ⟨S, But.refl, fun _ h => by cases h⟩
theorem BL.go {R : Hp → V → Prop} {H0 : Hp} {vs : List V} (h : BL R H0 H s p vs) (e : But s H H') (S : Strm H' s p) : BL R H0 H' s p vs := ⟨S, h.e.trans e, fun x hx => (h.F x hx).but e⟩
theorem BL.step {R : Hp → V → Prop} {H0 : Hp} {vs : List V} (h : BL R H0 H s p vs) (e : Same H H') (n : PB R s H' v) : BL R H0 H' s p (vs ++ [v]) := ⟨h.S.same e, h.e.then_same e, fun x hx => by
  rcases List.mem_append.mp hx with hx | hx
  · exact (h.F x hx).but (But.of_same e)
  · rw [List.mem_singleton] at hx
    subst hx
    exact n⟩
theorem BL.here {R : Hp → V → Prop} {H0 : Hp} {vs : List V} (h : BL R H0 H s p vs) (n : PB R s H v) : BL R H0 H s p (vs ++ [v]) := h.step (Same.refl _) n
theorem BL.over {R : Hp → V → Prop} {H0 : Hp} {vs : List V} {q : Addr} (h : BL R H0 H s p vs) (z : H q = none) : BL R H0 (upd H q o) s p vs := h.go (But.new z) (h.S.over z)
def LVf (K : PySem.W.Frag) (H : Hp) (v : V) : Prop := LV K H v false
def RVf (K : PySem.W.Frag) (H : Hp) (v : V) : Prop := RV K H v false
theorem lookU_of {z : Str} {r : List V} (h : z = "fill" ∨ z = "stroke" ∨ z = "dot" ∨ z = "paint") : lookU (.str z :: r) := fun s r e => by injection e with e _; injection e with e; subst e; exact h
theorem pbLook (S : Strm H s p) (h : SqT K H a xs) (hs : xs.all (fun v => match v with | .int _ => true | .str _ => true | .bl _ => true | .non => true | _ => false) = true) (hu : lookU xs) (e : lookB xs = false) : PB (LVf K) s H (.ref a) :=
  fun H' q => LV.of (tButS q S h) (sc_ty hs) hu e
theorem pbList {q : Addr} (h : H q = some (.lst xs)) (n : q ≠ s) : PB (LVf K) s H (.ref q) := fun H' e => LV.no (.lst (SqL.of (e.get n h))) (by decide)
theorem pbListR {q : Addr} (h : H q = some (.lst xs)) (n : q ≠ s) : PB (RVf K) s H (.ref q) := fun H' e => RV.no (.lst (SqL.of (e.get n h))) (by decide)
theorem lookB_paint {v : V} {r : List V} : lookB (.str "paint" :: v :: r) = false := by
  match r with
  | [] => show (betB 1 63 v && decide (V.str "paint" = .str "fill")) = false; rw [show decide (V.str "paint" = .str "fill") = false by decide +kernel, Bool.and_false]
  | [x] => show (betB 1 63 v && ((decide (V.str "paint" = .str "stroke") || decide (V.str "paint" = .str "dot")) && _)) = false; rw [show (decide (V.str "paint" = .str "stroke") || decide (V.str "paint" = .str "dot")) = false by decide +kernel, Bool.false_and, Bool.and_false]
  | _ :: _ :: _ => rfl
theorem lookB_w {u v x : V} (h : betB 1 16 x = false) : lookB [u, v, x] = false := by
  show (betB 1 63 v && ((decide _ || decide _) && betB 1 16 x)) = false
  rw [h, Bool.and_false, Bool.and_false]
theorem lookB_f {v x : V} : lookB [.str "fill", v, x] = false := by
  show (betB 1 63 v && ((decide (V.str "fill" = .str "stroke") || decide (V.str "fill" = .str "dot")) && betB 1 16 x)) = false
  rw [show (decide (V.str "fill" = .str "stroke") || decide (V.str "fill" = .str "dot")) = false by decide +kernel, Bool.false_and, Bool.and_false]
theorem lookB_s {v : V} : lookB [.str "stroke", v] = false := by
  show (betB 1 63 v && decide (V.str "stroke" = .str "fill")) = false
  rw [show decide (V.str "stroke" = .str "fill") = false by decide +kernel, Bool.and_false]
theorem ruleB_f {k l m o : V} {c : Bool} (h : (nameV k || decide (k = .str "")) = false ∨ betB 0 6 l = false ∨ betB 0 6 m = false ∨ leV l m = false ∨ betB (-8) 8 o = false ∨ c = false) : ruleB k l m o c = false := by
  unfold ruleB
  rcases h with h | h | h | h | h | h <;> rw [h] <;> simp
theorem pbRule {k l m o u : V} (S : Strm H s p) (h : SqT K H a [k, l, m, o, u]) (hk : k = .non ∨ ∃ s : Str, k = .str s ∧ s.length ≤ 100) (hl : ∀ H, ∃ n, Ty K H l n) (hm : ∀ H, ∃ n, Ty K H m n) (ho : ∀ H, ∃ n, Ty K H o n) (hu : PB (fun H v => LV K H v c) s H u) (e : (nameV k || decide (k = .str "")) = false ∨ betB 0 6 l = false ∨ betB 0 6 m = false ∨ leV l m = false ∨ betB (-8) 8 o = false ∨ c = false) : PB (RVf K) s H (.ref a) :=
  fun H' q => RV.bad (tButS q S h) hk (hl _) (hm _) (ho _) (hu H' q) (ruleB_f e)
theorem pbGood (S : Strm H s p) (h : SqT K H a xs) (g : Look xs) : PB (fun H v => LV K H v true) s H (.ref a) := fun H' q => LV.good (tButS q S h) g
theorem RV.four (h : SqT K H a xs) (e : xs.length ≠ 5) : RV K H (.ref a) false := ⟨_, .tup h, fun _ => ⟨_, _, rfl, h, .inl ⟨e, rfl⟩⟩, fun z => absurd rfl z⟩
theorem cut_take {n : Nat} : cutV xs none (some (n : Int)) = xs.take n := by
  unfold cutV
  rw [show HT.sIx xs.length 0 none = 0 from rfl, HT.sIx_nat, List.drop_zero, Nat.sub_zero]
  rcases Nat.le_total n xs.length with q | q
  · rw [Nat.min_eq_left q]
  · rw [Nat.min_eq_right q, List.take_of_length_le q, List.take_of_length_le (Nat.le_refl _)]
theorem cut_drop {n : Nat} : cutV xs (some (n : Int)) none = xs.drop n := by
  unfold cutV
  rw [show HT.sIx xs.length xs.length none = xs.length from rfl, HT.sIx_nat]
  rcases Nat.le_total n xs.length with q | q
  · rw [Nat.min_eq_left q, List.take_of_length_le (by rw [List.length_drop]; exact Nat.le_refl _)]
  · rw [Nat.min_eq_right q, List.drop_of_length_le q, List.drop_of_length_le (Nat.le_refl _), List.take_nil]
theorem noPart {σ : L2.St} {k : Option Int → Hp → Prop} (h : k none H) : tNoPart σ H k := h
end
end My
namespace My
open PySem L2
theorem walk_zipT {K : PySem.W.Frag} {a b : Addr} {xs ys : List V} {n : Nat} (hn : n = min xs.length ys.length) : Walk (RZ.ItzT K a b) n (fun H => SqT K H a xs ∧ SqT K H b ys) (YPair (fun i => xs[i]?) (fun i => ys[i]?)) :=
  ⟨fun i H hi g => by
    have l1 : i < xs.length := by omega
    have l2 : i < ys.length := by omega
    exact ⟨xs, ys, _, _, g.1, g.2, get_at l1, get_at l2⟩, fun H g => ⟨xs, ys, g.1, g.2, by omega⟩, fun i H v H' _ g y => by
    obtain ⟨T, x, z, e1, e2, e3, e4, e5⟩ := y
    exact ⟨T, x, z, e1, e2, e3, e4 _ g.1, e5 _ g.2⟩⟩
theorem call_lenK {X : Cx} {K : PySem.W.Frag} (h : X.K = K) : CallR X (.builtin "len") (fun xs H Q => ∃ x n, xs = [x] ∧ LenV K x H n ∧ Q (.int n) H) := by
  subst h
  exact call_len
theorem call_tuple_ofK {X : Cx} {K : PySem.W.Frag} (h : X.K = K) : CallR X (.type "tuple") (fun xs H Q => ∃ p ys, xs = [.ref p] ∧ ((SqL K H p ys ∧ ∀ l, H l = none → Q (.ref l) (upd H l (.tup ys))) ∨ SqT K H p ys ∧ Q (.ref p) H)) := by
  subst h
  exact call_tuple_of
theorem sl_listK {X : Cx} {K : PySem.W.Frag} (h : X.K = K) : SlR X (rSlL K) := by
  subst h
  exact sl_list
end My
namespace My
open PySem L2
/-! ## rows of colours, runs -/
section
variable {K : PySem.W.Frag} {H H' : Hp} {a p s D : Addr} {x v : V} {b c : Bool} {xs : List V} {o : HO} {zs : List Zp}
/-- a tuple whose items R tells; f: of its length -/
def TupV (R : Hp → V → Bool → Prop) (f : Nat → Bool) (K : PySem.W.Frag) (H : Hp) (x : V) (b : Bool) : Prop := ∃ n, Ty K H x n ∧ (n = "tuple" → ∃ (a : Addr) (xs : List V) (bs : List Bool), x = .ref a ∧ SqT K H a xs ∧ xs.length ≤ 1000 ∧ bs.length = xs.length ∧
  (∀ (i : Nat) v c, xs[i]? = some v → bs[i]? = some c → R H v c) ∧ b = (f xs.length && bs.all id)) ∧ (n ≠ "tuple" → b = false)
theorem TupV.same {R : Hp → V → Bool → Prop} {f : Nat → Bool} (hR : ∀ v c, R H v c → R H' v c) (e : Same H H') (h : TupV R f K H x b) : TupV R f K H' x b := by
  obtain ⟨n, t, h1, h2⟩ := h
  refine ⟨n, t.same e, fun q => ?_, h2⟩
  obtain ⟨a, xs, bs, e1, e2, e3, e4, e5, e6⟩ := h1 q
  exact ⟨a, xs, bs, e1, tSame e e2, e3, e4, fun i v c f g => hR v c (e5 i v c f g), e6⟩
theorem TupV.no {R : Hp → V → Bool → Prop} {f : Nat → Bool} {n : String} (h : Ty K H x n) (hn : n ≠ "tuple") : TupV R f K H x false := ⟨n, h, fun q => absurd q hn, fun _ => rfl⟩
theorem TupV.of {R : Hp → V → Bool → Prop} {f : Nat → Bool} {bs : List Bool} (h : SqT K H a xs) (hz : xs.length ≤ 1000) (hb : bs.length = xs.length) (hR : ∀ (i : Nat) v c, xs[i]? = some v → bs[i]? = some c → R H v c) (e : (f xs.length && bs.all id) = b) : TupV R f K H (.ref a) b :=
  ⟨_, .tup h, fun _ => ⟨_, _, bs, rfl, h, hz, hb, hR, e.symm⟩, fun z => absurd rfl z⟩
theorem rep_get {n i : Nat} {c : Bool} (h : (List.replicate n true)[i]? = some c) : c = true := by
  rw [List.getElem?_replicate] at h
  split at h
  · injection h with h; exact h.symm
  · cases h
theorem TupV.all {R : Hp → V → Bool → Prop} {f : Nat → Bool} (h : SqT K H a xs) (hz : xs.length ≤ 1000) (hR : ∀ v ∈ xs, R H v true) (e : f xs.length = b) : TupV R f K H (.ref a) b :=
  .of (bs := List.replicate xs.length true) h hz (by simp) (fun i v c e1 e2 => by rw [rep_get e2]; exact hR v (List.mem_of_getElem? e1)) (by rw [e]; simp)
theorem TupV.bad {R : Hp → V → Bool → Prop} {f : Nat → Bool} {us ws : List V} (h : SqT K H a (us ++ v :: ws)) (hz : us.length + ws.length ≤ 900) (hu : ∀ v ∈ us, R H v true) (hv : R H v false) (hw : ∀ v ∈ ws, R H v true) : TupV R f K H (.ref a) false :=
  .of (bs := List.replicate us.length true ++ false :: List.replicate ws.length true) h (by simp; omega) (by simp) (fun i v' c e1 e2 => by
    by_cases q : i < us.length
    · rw [List.getElem?_append_left q] at e1
      rw [List.getElem?_append_left (by simpa using q)] at e2
      rw [rep_get e2]
      exact hu v' (List.mem_of_getElem? e1)
    · rw [List.getElem?_append_right (by omega)] at e1
      rw [List.getElem?_append_right (by simp; omega), List.length_replicate] at e2
      cases hi : i - us.length with
      | zero =>
        rw [hi] at e1 e2
        injection e1 with e1
        injection e2 with e2
        subst e1 e2
        exact hv
      | succ k =>
        rw [hi, List.getElem?_cons_succ] at e1 e2
        rw [rep_get e2]
        exact hw v' (List.mem_of_getElem? e1)) (by simp)
/-! ### rows -/
def ElV (K : PySem.W.Frag) (H : Hp) (v : V) (c : Bool) : Prop := (∃ m, Ty K H v m) ∧ c = betB 0 63 v
def L16 (n : Nat) : Bool := decide (V.int (n : Int) = V.int 16)
def RowV (K : PySem.W.Frag) (H : Hp) (x : V) (b : Bool) : Prop := TupV (ElV K) L16 K H x b
def ShV (K : PySem.W.Frag) (H : Hp) (x : V) (b : Bool) : Prop := TupV (RowV K) L16 K H x b
theorem ElV.same (e : Same H H') (h : ElV K H v c) : ElV K H' v c := ⟨h.1.imp fun _ t => t.same e, h.2⟩
theorem RowV.same (e : Same H H') (h : RowV K H x b) : RowV K H' x b := TupV.same (fun v c h => ElV.same e h) e h
theorem ShV.same (e : Same H H') (h : ShV K H x b) : ShV K H' x b := TupV.same (fun v c h => RowV.same e h) e h
/-- a good row -/
structure RowAt (K : PySem.W.Frag) (H : Hp) (a : Addr) (cs : List Int) : Prop where
  t : SqT K H a (cs.map V.int)
  len : cs.length = 16
  ok : ∀ c ∈ cs, 0 ≤ c ∧ c ≤ 63
theorem RowAt.same {cs : List Int} (e : Same H H') (h : RowAt K H a cs) : RowAt K H' a cs := { h with t := tSame e h.t }
theorem RowAt.but {q : Addr} {cs : List Int} (e : But s H H') (S : Strm H s q) (h : RowAt K H a cs) : RowAt K H' a cs := { h with t := tButS e S h.t }
theorem RowAt.put {cs : List Int} (n : ∃ ys, H D = some (.lst ys)) (h : RowAt K H a cs) : RowAt K (upd H D o) a cs := { h with t := tAt n h.t }
theorem l16 {n : Nat} (h : n = 16) : L16 n = true := by subst h; rfl
theorem l16n {n : Nat} (h : n ≠ 16) : L16 n = false := decide_eq_false fun z => h (by injection z with z; omega)
theorem el_int {i : Int} (h : 0 ≤ i ∧ i ≤ 63) : ElV K H (.int i) true := ⟨⟨_, .int i⟩, (betB_ok h.1 h.2).symm⟩
theorem els {cs : List Int} (h : ∀ c ∈ cs, 0 ≤ c ∧ c ≤ 63) : ∀ v ∈ cs.map V.int, ElV K H v true := fun v hv => by
  obtain ⟨c, hc, rfl⟩ := List.mem_map.mp hv
  exact el_int (h c hc)
theorem RowAt.rv {cs : List Int} (h : RowAt K H a cs) : RowV K H (.ref a) true := TupV.all h.t (by rw [List.length_map, h.len]; decide) (els h.ok) (l16 (by rw [List.length_map, h.len]))
/-- a good sheet -/
structure ShAt (K : PySem.W.Frag) (H : Hp) (a : Addr) (rs : List (Addr × List Int)) : Prop where
  t : SqT K H a (rs.map fun r => V.ref r.1)
  len : rs.length = 16
  ok : ∀ r ∈ rs, RowAt K H r.1 r.2
theorem ShAt.same {rs : List (Addr × List Int)} (e : Same H H') (h : ShAt K H a rs) : ShAt K H' a rs := ⟨tSame e h.t, h.len, fun r hr => (h.ok r hr).same e⟩
theorem ShAt.but {q : Addr} {rs : List (Addr × List Int)} (e : But s H H') (S : Strm H s q) (h : ShAt K H a rs) : ShAt K H' a rs := ⟨tButS e S h.t, h.len, fun r hr => (h.ok r hr).but e S⟩
theorem rows_rv {rs : List (Addr × List Int)} (h : ∀ r ∈ rs, RowAt K H r.1 r.2) : ∀ v ∈ rs.map (fun r => V.ref r.1), RowV K H v true := fun v hv => by
  obtain ⟨r, hr, rfl⟩ := List.mem_map.mp hv
  exact (h r hr).rv
theorem ShAt.sv {rs : List (Addr × List Int)} (h : ShAt K H a rs) : ShV K H (.ref a) true := TupV.all h.t (by rw [List.length_map, h.len]; decide) (rows_rv h.ok) (l16 (by rw [List.length_map, h.len]))
/-! ### runs -/
def runB : List V → Bool
  | [u, w] => betB 1 256 u && betB 0 63 w
  | _ => false
def RunV (K : PySem.W.Frag) (H : Hp) (x : V) (b : Bool) : Prop := ∃ n, Ty K H x n ∧ (n = "tuple" → ∃ a xs, x = .ref a ∧ SqT K H a xs ∧ (∀ v ∈ xs, ∃ m, Ty K H v m) ∧ b = runB xs) ∧ (n ≠ "tuple" → b = false)
theorem RunV.same (e : Same H H') (h : RunV K H x b) : RunV K H' x b := by
  obtain ⟨n, t, h1, h2⟩ := h
  refine ⟨n, t.same e, fun q => ?_, h2⟩
  obtain ⟨a, xs, e1, e2, e3, e4⟩ := h1 q
  exact ⟨a, xs, e1, tSame e e2, fun v hv => (e3 v hv).imp fun _ h => h.same e, e4⟩
theorem RunV.tup (h : SqT K H a xs) (hm : ∀ v ∈ xs, ∃ m, Ty K H v m) (e : runB xs = b) : RunV K H (.ref a) b := ⟨_, .tup h, fun _ => ⟨_, _, rfl, h, hm, e.symm⟩, fun z => absurd rfl z⟩
theorem RunV.no {n : String} (h : Ty K H x n) (hn : n ≠ "tuple") : RunV K H x false := ⟨n, h, fun q => absurd q hn, fun _ => rfl⟩
/-- a good run -/
def okR (z : Zp) : Prop := (1 ≤ z.2.1 ∧ z.2.1 ≤ 256) ∧ 0 ≤ z.2.2 ∧ z.2.2 ≤ 63
/-- good runs in a tuple -/
structure RnAt (K : PySem.W.Frag) (H : Hp) (a : Addr) (zs : List Zp) : Prop where
  t : SqT K H a (refs zs)
  p : Pts K H zs
  ok : ∀ z ∈ zs, okR z
theorem RnAt.same (e : Same H H') (h : RnAt K H a zs) : RnAt K H' a zs := ⟨tSame e h.t, h.p.same e, h.ok⟩
theorem RnAt.but {q : Addr} (e : But s H H') (S : Strm H s q) (h : RnAt K H a zs) : RnAt K H' a zs := ⟨tButS e S h.t, h.p.but e S, h.ok⟩
theorem run_ok {z : Zp} (h : SqT K H z.1 [.int z.2.1, .int z.2.2]) (g : okR z) : RunV K H (.ref z.1) true := .tup h two_ints (by
  show (betB 1 256 (.int z.2.1) && betB 0 63 (.int z.2.2)) = true
  rw [betB_ok g.1.1 g.1.2, betB_ok g.2.1 g.2.2]; rfl)
theorem runs_ok (p : Pts K H zs) (g : ∀ z ∈ zs, okR z) : ∀ v ∈ refs zs, RunV K H v true := fun v hv => by
  obtain ⟨z, hz, rfl⟩ := List.mem_map.mp hv
  exact run_ok (p z hz) (g z hz)
/-- neighbours have different colours -/
def NeC (zs : List Zp) : Prop := ∀ (i : Nat) u w, zs[i]? = some u → zs[i + 1]? = some w → u.2.2 ≠ w.2.2
def tot (zs : List Zp) : Int := (zs.map fun z => z.2.1).sum
def PkOk (zs : List Zp) : Prop := tot zs = 256 ∧ NeC zs
def AnyRun (n : Nat) : Bool := true
/-- x is a value of which is_packed is b -/
def PkV (K : PySem.W.Frag) (H : Hp) (x : V) (b : Bool) : Prop := (∃ a zs, x = .ref a ∧ RnAt K H a zs ∧ zs.length ≤ 300 ∧ (b = true ↔ PkOk zs)) ∨ (TupV (RunV K) AnyRun K H x false ∧ b = false)
theorem PkV.same (e : Same H H') (h : PkV K H x b) : PkV K H' x b := by
  rcases h with ⟨a, zs, e1, h, h2, h3⟩ | ⟨h, h2⟩
  · exact .inl ⟨a, zs, e1, h.same e, h2, h3⟩
  · exact .inr ⟨TupV.same (fun v c h => RunV.same e h) e h, h2⟩
theorem PkV.not (h : RnAt K H a zs) (hz : zs.length ≤ 300) (n : ¬ PkOk zs) : PkV K H (.ref a) false := .inl ⟨a, zs, rfl, h, hz, ⟨fun z => (Bool.false_ne_true z).elim, fun z => (n z).elim⟩⟩
theorem PkV.good (h : RnAt K H a zs) (hz : zs.length ≤ 300) (n : PkOk zs) : PkV K H (.ref a) true := .inl ⟨a, zs, rfl, h, hz, ⟨fun _ => n, fun _ => rfl⟩⟩
end
/-! ### what the runs of a row of colours are -/
def push (rs : List (Int × Int)) (c : Int) : List (Int × Int) := match rs.getLast? with
  | some (n, d) => if d = c then rs.dropLast ++ [(n + 1, c)] else rs ++ [(1, c)]
  | none => [(1, c)]
def runsOf (cs : List Int) : List (Int × Int) := cs.foldl push []
def spread (rs : List (Int × Int)) : List Int := rs.flatMap fun r => List.replicate r.1.toNat r.2
theorem runsOf_snoc (cs : List Int) (c : Int) : runsOf (cs ++ [c]) = push (runsOf cs) c := by unfold runsOf; rw [List.foldl_append]; rfl
theorem push_nil (c : Int) : push [] c = [(1, c)] := rfl
theorem push_snoc (rs : List (Int × Int)) (n d c : Int) : push (rs ++ [(n, d)]) c = if d = c then rs ++ [(n + 1, c)] else rs ++ [(n, d)] ++ [(1, c)] := by
  unfold push
  rw [List.getLast?_append]
  simp
/-- what holds of the runs -/
structure Good (cs : List Int) (rs : List (Int × Int)) : Prop where
  sp : spread rs = cs
  pos : ∀ r ∈ rs, 1 ≤ r.1
  col : ∀ r ∈ rs, r.2 ∈ cs
  ne : ∀ (i : Nat) u w, rs[i]? = some u → rs[i + 1]? = some w → u.2 ≠ w.2
  sum : (rs.map fun r => r.1).sum = (cs.length : Int)
theorem spread_app (as bs : List (Int × Int)) : spread (as ++ bs) = spread as ++ spread bs := by unfold spread; rw [List.flatMap_append]
theorem good_runs (cs : List Int) : Good cs (runsOf cs) := by
  have key : ∀ (n : Nat) (cs : List Int), cs.length = n → Good cs (runsOf cs) := by
    intro n
    induction n with
    | zero =>
      intro cs h
      have : cs = [] := List.length_eq_zero_iff.mp h
      subst this
      exact ⟨rfl, (fun _ h => by cases h), (fun _ h => by cases h), (fun i u w h => by cases h), rfl⟩
    | succ n ih =>
      intro cs h
      obtain ⟨ds, c, rfl⟩ : ∃ ds c, cs = ds ++ [c] := ⟨cs.dropLast, cs.getLast (fun z => by rw [z] at h; cases h), (List.dropLast_concat_getLast _).symm⟩
      have g := ih ds (by simpa using h)
      rw [runsOf_snoc]
      generalize runsOf ds = rs at g
      rcases List.eq_nil_or_concat rs with rfl | ⟨ts, ⟨m, d⟩, rfl⟩
      · have e : ds = [] := by rw [← g.sp]; rfl
        subst e
        rw [push_nil]
        exact ⟨rfl, (fun r h => by rw [List.mem_singleton] at h; subst h; exact Int.le_refl _), (fun r h => by rw [List.mem_singleton] at h; subst h; simp), (fun i u w _ h => by simp at h), rfl⟩
      · rw [List.concat_eq_append] at g ⊢
        rw [push_snoc]
        have gm := g.pos (m, d) (by simp)
        split
        · rename_i e
          subst e
          refine ⟨?_, fun r h => ?_, fun r h => ?_, fun i u w h1 h2 => ?_, ?_⟩
          · rw [← g.sp, spread_app, spread_app, List.append_assoc]
            congr 1
            show List.replicate (m + 1).toNat d ++ [] = (List.replicate m.toNat d ++ []) ++ [d]
            rw [List.append_nil, List.append_nil, ← List.replicate_succ', show (m + 1).toNat = m.toNat + 1 by have : 1 ≤ m := gm; omega]
          · rcases List.mem_append.mp h with h | h
            · exact g.pos r (by simp [h])
            · rw [List.mem_singleton] at h; subst h
              have : 1 ≤ m := gm
              show 1 ≤ m + 1
              omega
          · rcases List.mem_append.mp h with h | h
            · exact List.mem_append_left _ (g.col r (by simp [h]))
            · rw [List.mem_singleton] at h; subst h; simp
          · have hj := (List.getElem?_eq_some_iff.mp h2).1
            rw [List.length_append] at hj
            have hj : i + 1 < ts.length + 1 := hj
            rw [List.getElem?_append_left (by omega)] at h1
            by_cases q : i + 1 < ts.length
            · rw [List.getElem?_append_left q] at h2
              exact g.ne i u w (by rw [List.getElem?_append_left (by omega)]; exact h1) (by rw [List.getElem?_append_left q]; exact h2)
            · have e : i + 1 = ts.length := by omega
              rw [e, List.getElem?_append_right (Nat.le_refl _), Nat.sub_self] at h2
              injection h2 with h2
              subst h2
              exact g.ne i u (m, d) (by rw [List.getElem?_append_left (by omega)]; exact h1) (by rw [e, List.getElem?_append_right (Nat.le_refl _), Nat.sub_self]; rfl)
          · have := g.sum
            simp only [List.map_append, List.sum_append, List.map_cons, List.map_nil, List.sum_cons, List.sum_nil, List.length_append, List.length_cons, List.length_nil] at this ⊢
            omega
        · rename_i e
          refine ⟨?_, fun r h => ?_, fun r h => ?_, fun i u w h1 h2 => ?_, ?_⟩
          · rw [spread_app, g.sp]
            rfl
          · rcases List.mem_append.mp h with h | h
            · exact g.pos r h
            · rw [List.mem_singleton] at h; subst h; exact Int.le_refl _
          · rcases List.mem_append.mp h with h | h
            · exact List.mem_append_left _ (g.col r h)
            · rw [List.mem_singleton] at h; subst h; simp
          · have hj := (List.getElem?_eq_some_iff.mp h2).1
            rw [List.length_append] at hj
            have hj : i + 1 < (ts ++ [(m, d)]).length + 1 := hj
            rw [List.getElem?_append_left (by omega)] at h1
            by_cases q : i + 1 < (ts ++ [(m, d)]).length
            · rw [List.getElem?_append_left q] at h2
              exact g.ne i u w h1 h2
            · have e2 : i + 1 = (ts ++ [(m, d)]).length := by omega
              rw [e2, List.getElem?_append_right (Nat.le_refl _), Nat.sub_self] at h2
              injection h2 with h2
              subst h2
              have e3 : i = ts.length := by simp at e2; omega
              rw [e3, List.getElem?_append_right (Nat.le_refl _), Nat.sub_self] at h1
              injection h1 with h1
              subst h1
              exact e
          · have := g.sum
            simp only [List.map_append, List.sum_append, List.map_cons, List.map_nil, List.sum_cons, List.sum_nil, List.length_append, List.length_cons, List.length_nil] at this ⊢
            omega
  exact key _ cs rfl
/-- a walk, whatever is done at each turn -/
theorem walk_out {J : It} {n : Nat} {G : Hp → Prop} {Y : Nat → Hp → V → Hp → Prop} {Body : (Hp → Prop) → V → Hp → Prop} {End : Hp → Prop} {Hs : Hp} (w : Walk J n G Y) (Pv : Nat → Hp → Prop) (first : Pv 0 Hs) (stands : ∀ i H, i ≤ n → Pv i H → G H)
    (turn : ∀ i x H H', i < n → Pv i H → Y i H x H' → Body (Pv (i + 1)) x H') (last : ∀ H, Pv n H → End H) :
    ∃ W : Nat → Nat → Hp → Prop, (∃ m, W 0 m Hs) ∧ ∀ i m H, W i m H → (J.stop i H ∧ End H) ∨ (J.go i H ∧ ∃ Nx : Hp → Prop, (∀ H', Nx H' → ∃ m', m' < m ∧ W (i + 1) m' H') ∧ ∀ x H', J.yld i H x H' → Body Nx x H') := by
  refine ⟨fun i left H => i + left = n ∧ Pv i H, ⟨n, Nat.zero_add n, first⟩, fun i left H here => ?_⟩
  obtain ⟨count, now⟩ := here
  cases left with
  | zero =>
    obtain rfl : i = n := count
    exact .inl ⟨w.stops H (stands _ H (Nat.le_refl _) now), last H now⟩
  | succ fewer =>
    have more : i < n := by omega
    exact .inr ⟨w.goes i H more (stands _ H (Nat.le_of_lt more) now), Pv (i + 1), fun H' then_ => ⟨fewer, Nat.lt_succ_self fewer, by omega, then_⟩, fun x H' given => turn i x H H' more now (w.yields i H x H' more (stands _ H (Nat.le_of_lt more) now) given)⟩
/-! ### the runs as they grow -/
theorem len_sum : ∀ (rs : List (Int × Int)), (∀ r ∈ rs, 1 ≤ r.1) → (rs.length : Int) ≤ (rs.map fun r => r.1).sum
  | [], _ => Int.le_refl _
  | r :: rs, h => by
    have h1 := h r (by simp)
    have h2 := len_sum rs fun x hx => h x (by simp [hx])
    simp only [List.length_cons, List.map_cons, List.sum_cons]
    omega
theorem runs_len (cs : List Int) : (runsOf cs).length ≤ cs.length := by
  have g := good_runs cs
  have := len_sum _ g.pos
  rw [g.sum] at this
  omega
theorem Same.own {H Hc H' : Hp} {D : Addr} (a : Same H Hc) (n : H D = none) (c : But D Hc H') : Same H H' := fun b u e => (a b u e).next fun u' k => c b u' (ne_of_none e n) k
def Acc (K : PySem.W.Frag) (Hc : Hp) (D : Addr) (done : List Int) (H' : Hp) : Prop := ∃ zs : List Zp, But D Hc H' ∧ H' D = some (.lst (refs zs)) ∧ Pts K H' zs ∧ zs.map (fun z => z.2) = runsOf done
section
variable {K : PySem.W.Frag} {Hc Hx : Hp} {D r : Addr} {done : List Int} {zs ts : List Zp} {z : Zp} {c : Int}
theorem Acc.add (e : But D Hc Hx) (hD : Hx D = some (.lst (refs zs))) (hP : Pts K Hx zs) (hm : zs.map (fun z => z.2) = runsOf done) (hr : Hx r = none) (hn : push (zs.map fun z => z.2) c = zs.map (fun z => z.2) ++ [(1, c)]) :
    Acc K Hc D (done ++ [c]) (upd (upd Hx r (.tup [.int 1, .int c])) D (.lst (refs zs ++ [.ref r]))) :=
  have l : ∃ ys, upd Hx r (HO.tup [.int 1, .int c]) D = some (.lst ys) := ⟨_, rOver hr hD⟩
  ⟨zs ++ [(r, 1, c)], (e.then_new hr).then_at, by rw [upd_same, show refs (zs ++ [(r, 1, c)]) = refs zs ++ [V.ref r] from List.map_append], ((hP.over hr).at l).app (.one (tAt l tHere)), by rw [runsOf_snoc, ← hm, hn, List.map_append]; rfl⟩
theorem Acc.more (e : But D Hc Hx) (hD : Hx D = some (.lst (refs (ts ++ [z])))) (hP : Pts K Hx (ts ++ [z])) (hm : (ts ++ [z]).map (fun z => z.2) = runsOf done) (hr : Hx r = none) :
    Acc K Hc D (done ++ [z.2.2]) (upd (upd Hx r (.tup [.int (z.2.1 + 1), .int z.2.2])) D (.lst ((refs (ts ++ [z])).set ts.length (.ref r)))) :=
  have l : ∃ ys, upd Hx r (HO.tup [.int (z.2.1 + 1), .int z.2.2]) D = some (.lst ys) := ⟨_, rOver hr hD⟩
  have es : (refs (ts ++ [z])).set ts.length (.ref r) = refs (ts ++ [(r, z.2.1 + 1, z.2.2)]) := by
    rw [show refs (ts ++ [z]) = refs ts ++ [V.ref z.1] from List.map_append, show refs (ts ++ [(r, z.2.1 + 1, z.2.2)]) = refs ts ++ [V.ref r] from List.map_append, List.set_append_right _ _ (by simp)]
    simp
  ⟨ts ++ [(r, z.2.1 + 1, z.2.2)], (e.then_new hr).then_at, by rw [upd_same, es], (Pts.at l (Pts.over hr fun x hx => hP x (by simp [hx]))).app (.one (tAt l tHere)), by
    rw [runsOf_snoc, ← hm, show (ts ++ [z]).map (fun z => z.2) = ts.map (fun z => z.2) ++ [(z.2.1, z.2.2)] from List.map_append, push_snoc, if_pos rfl]; exact List.map_append⟩
theorem Acc.len (hm : zs.map (fun z => z.2) = runsOf done) : zs.length ≤ done.length := by
  have := runs_len done
  rw [← hm, List.length_map] at this
  exact this
theorem ix_last {n : Nat} : ixN (n + 1) (-1) = some n := by
  unfold ixN
  rw [if_neg (by decide), if_pos (by omega)]
  congr 1
  omega
end
theorem tot_app (as bs : List Zp) : tot (as ++ bs) = tot as + tot bs := by unfold tot; rw [List.map_append, List.sum_append]
theorem tot_nn : ∀ (zs : List Zp), (∀ z ∈ zs, 0 ≤ z.2.1) → 0 ≤ tot zs
  | [], _ => Int.le_refl _
  | z :: zs, h => by
    have h1 := h z (by simp)
    have h2 := tot_nn zs fun x hx => h x (by simp [hx])
    unfold tot at h2 ⊢
    simp only [List.map_cons, List.sum_cons]
    omega
theorem tot_take {zs : List Zp} (h : ∀ z ∈ zs, 0 ≤ z.2.1) (i : Nat) : tot (zs.take i) ≤ tot zs := by
  have e : tot zs = tot (zs.take i) + tot (zs.drop i) := by rw [← tot_app, List.take_append_drop]
  have := tot_nn (zs.drop i) fun z hz => h z (List.mem_of_mem_drop hz)
  omega
theorem spread_snoc (zs : List Zp) (z : Zp) : spread ((zs ++ [z]).map fun z => z.2) = spread (zs.map fun z => z.2) ++ List.replicate z.2.1.toNat z.2.2 := by
  rw [List.map_append, spread_app]
  congr 1
  show List.replicate z.2.1.toNat z.2.2 ++ [] = _
  rw [List.append_nil]
theorem take_snoc {α : Type} {xs : List α} {i : Nat} {x : α} (h : xs[i]? = some x) : xs.take (i + 1) = xs.take i ++ [x] := by rw [List.take_succ, h]; rfl
theorem cut_mid {xs : List V} {a b : Nat} (h : a + b ≤ xs.length) : cutV xs (some (a : Int)) (some ((a + b : Nat) : Int)) = (xs.drop a).take b := by
  unfold cutV
  rw [HT.sIx_nat, HT.sIx_nat, Nat.min_eq_left (show a ≤ xs.length by omega), Nat.min_eq_left h, Nat.add_sub_cancel_left]
/-! ### packed sheets that are none -/
def Sp (K : PySem.W.Frag) (c : Int) (H : Hp) (ws : List V) : Prop := (∃ x, ws = [x] ∧ RunV K H x false) ∨ ∃ ys : List Zp, ws = refs ys ∧ ys.length ≤ 2 ∧ Pts K H ys ∧ (∀ z ∈ ys, okR z) ∧ tot ys ≠ c
def Spoil (K : PySem.W.Frag) (c : Int) (H : Hp) (v : V) : Prop := ∃ q ws, v = .ref q ∧ SqT K H q ws ∧ Sp K c H ws
section
variable {K : PySem.W.Frag} {H H' : Hp} {a p q s b : Addr} {zs : List Zp} {z : Zp} {n : Nat} {ws : List V} {c : Int} {x : V}
theorem Sp.same (e : Same H H') (h : Sp K c H ws) : Sp K c H' ws := by
  rcases h with ⟨x, e1, h⟩ | ⟨ys, e1, e2, h, e3⟩
  · exact .inl ⟨x, e1, h.same e⟩
  · exact .inr ⟨ys, e1, e2, h.same e, e3⟩
theorem Sp.len (h : Sp K c H ws) : ws.length ≤ 2 := by
  rcases h with ⟨x, rfl, h⟩ | ⟨ys, rfl, e2, _⟩
  · exact Nat.le_succ 1
  · rw [List.length_map]; exact e2
theorem spoil_pk (hz : RnAt K H a zs) (hk : PkOk zs) (hn : zs[n]? = some z) (hl : zs.length ≤ 256) (hc : Sp K z.2.1 H ws) (hp : SqT K H p (refs (zs.take n) ++ (ws ++ refs (zs.drop (n + 1))))) : PkV K H (.ref p) false := by
  have hlt := (List.getElem?_eq_some_iff.mp hn).1
  have part : zs = zs.take n ++ (z :: zs.drop (n + 1)) := by
    have e := List.take_append_drop n zs
    rw [List.drop_eq_getElem_cons hlt, show zs[n] = z from (List.getElem?_eq_some_iff.mp hn).2] at e
    exact e.symm
  rcases hc with ⟨x, rfl, hx⟩ | ⟨ys, rfl, h2, hy, hok, hs⟩
  · refine .inr ⟨TupV.bad hp (by simp; omega) (runs_ok (fun y h => hz.p y (List.mem_of_mem_take h)) fun y h => hz.ok y (List.mem_of_mem_take h)) hx (runs_ok (fun y h => hz.p y (List.mem_of_mem_drop h)) fun y h => hz.ok y (List.mem_of_mem_drop h)), rfl⟩
  · have mem : ∀ y ∈ zs.take n ++ (ys ++ zs.drop (n + 1)), y ∈ zs ∨ y ∈ ys := fun y h => by
      rcases List.mem_append.mp h with h | h
      · exact .inl (List.mem_of_mem_take h)
      · rcases List.mem_append.mp h with h | h
        · exact .inr h
        · exact .inl (List.mem_of_mem_drop h)
    refine PkV.not (zs := zs.take n ++ (ys ++ zs.drop (n + 1))) ⟨?_, fun y h => (mem y h).elim (hz.p y) (hy y), fun y h => (mem y h).elim (hz.ok y) (hok y)⟩ ?_ fun g => ?_
    · rw [show refs (zs.take n ++ (ys ++ zs.drop (n + 1))) = refs (zs.take n) ++ refs (ys ++ zs.drop (n + 1)) from List.map_append, show refs (ys ++ zs.drop (n + 1)) = refs ys ++ refs (zs.drop (n + 1)) from List.map_append]
      exact hp
    · rw [List.length_append, List.length_append, List.length_take, List.length_drop]
      omega
    · have g1 := g.1
      have k1 := hk.1
      rw [part, tot_app, show tot (z :: zs.drop (n + 1)) = z.2.1 + tot (zs.drop (n + 1)) by unfold tot; simp] at k1
      rw [tot_app, tot_app] at g1
      omega
theorem spoil_one {xs : List V} (S : Strm H s b) (h : SqT K H q xs) (hs : xs.all (fun v => match v with | .int _ => true | .str _ => true | .bl _ => true | .non => true | _ => false) = true) (e : runB xs = false) (S2 : SqT K H p [.ref q]) : PB (Spoil K c) s H (.ref p) :=
  fun H' k => ⟨p, [.ref q], rfl, tButS k S S2, .inl ⟨_, rfl, RunV.tup (tButS k S h) (sc_ty hs) e⟩⟩
theorem spoil_runs {ys : List Zp} (S : Strm H s b) (h : SqT K H p (refs ys)) (l : ys.length ≤ 2) (hp : Pts K H ys) (ho : ∀ z ∈ ys, okR z) (ht : tot ys ≠ c) : PB (Spoil K c) s H (.ref p) :=
  fun H' k => ⟨p, refs ys, rfl, tButS k S h, .inr ⟨ys, rfl, l, hp.but k S, ho, ht⟩⟩
end
/-! ### a packed sheet is one -/
theorem mem_sum : ∀ {rs : List (Int × Int)}, (∀ r ∈ rs, 1 ≤ r.1) → ∀ r ∈ rs, r.1 ≤ (rs.map fun r => r.1).sum
  | x :: xs, h, r, hr => by
    have h2 := len_sum xs fun y hy => h y (by simp [hy])
    have h1 := h x (by simp)
    simp only [List.map_cons, List.sum_cons]
    rcases List.mem_cons.mp hr with rfl | hr
    · omega
    · have := mem_sum (fun y hy => h y (by simp [hy])) r hr
      omega
theorem runs_rn {zs : List Zp} {cs : List Int} (hm : zs.map (fun z => z.2) = runsOf cs) (hl : cs.length = 256) (hc : ∀ c ∈ cs, 0 ≤ c ∧ c ≤ 63) :
    (∀ z ∈ zs, okR z) ∧ PkOk zs ∧ 1 ≤ zs.length ∧ zs.length ≤ 256 ∧ spread (zs.map fun z => z.2) = cs := by
  have g := good_runs cs
  have es : tot zs = 256 := by
    have := g.sum
    rw [← hm, List.map_map] at this
    unfold tot
    rw [show (fun z : Zp => z.2.1) = (fun r : Int × Int => r.1) ∘ fun z : Zp => z.2 from rfl, this, hl]
    rfl
  have hin : ∀ z ∈ zs, z.2 ∈ runsOf cs := fun z hz => by rw [← hm]; exact List.mem_map.mpr ⟨z, hz, rfl⟩
  refine ⟨fun z hz => ⟨⟨g.pos _ (hin z hz), ?_⟩, hc _ (g.col _ (hin z hz))⟩, ⟨es, fun i u w h1 h2 => g.ne i u.2 w.2 (by rw [← hm, List.getElem?_map, h1]; rfl) (by rw [← hm, List.getElem?_map, h2]; rfl)⟩, ?_, ?_, by rw [hm]; exact g.sp⟩
  · have := mem_sum g.pos _ (hin z hz)
    rw [g.sum, hl] at this
    exact this
  · cases zs with
    | nil => cases es
    | cons _ _ => simp
  · have := runs_len cs
    rw [← hm, List.length_map, hl] at this
    exact this
theorem chunks : ∀ (ls : List (List Int)), (∀ l ∈ ls, l.length = 16) → (List.range ls.length).map (fun i => (ls.flatten.drop (16 * i)).take 16) = ls
  | [], _ => rfl
  | l :: ls, h => by
    have hl := h l (by simp)
    rw [List.length_cons, List.range_succ_eq_map, List.map_cons, List.map_map]
    congr 1
    · show ((l ++ ls.flatten).drop 0).take 16 = l
      rw [List.drop_zero, List.take_left' hl]
    · have ih := chunks ls fun x hx => h x (by simp [hx])
      conv => rhs; rw [← ih]
      apply List.map_congr_left
      intro i _
      show ((l ++ ls.flatten).drop (16 * (i + 1))).take 16 = _
      rw [show 16 * (i + 1) = l.length + 16 * i by omega, List.drop_append]
      rw [List.drop_eq_nil_of_le (by omega), List.nil_append, Nat.add_sub_cancel_left]
/-! ### equal as data -/
def dP2 (r : Int × Int) : PyData := .tuple [.int r.1, .int r.2]
def dRuns (rs : List (Int × Int)) : PyData := .tuple (rs.map dP2)
def dInts (cs : List Int) : PyData := .tuple (cs.map .int)
def dRows (ls : List (List Int)) : PyData := .tuple (ls.map dInts)
theorem plain_all : ∀ (ds : List PyData), (∀ d ∈ ds, d.plain = true) → PyData.plainAll ds = true
  | [], _ => rfl
  | d :: ds, h => by
    have h1 := h d (by simp)
    have h2 := plain_all ds fun x hx => h x (by simp [hx])
    simp [PyData.plainAll, h1, h2]
theorem lay_all : ∀ (ds : List PyData), (∀ d ∈ ds, d.canLay0 = true) → PyData.canLayAll0 ds = true
  | [], _ => rfl
  | d :: ds, h => by
    have h1 := h d (by simp)
    have h2 := lay_all ds fun x hx => h x (by simp [hx])
    simp [PyData.canLayAll0, h1, h2]
theorem depth_all {n : Nat} : ∀ (ds : List PyData), (∀ d ∈ ds, d.depth ≤ n) → PyData.depthAll ds ≤ n
  | [], _ => Nat.zero_le _
  | d :: ds, h => by
    have h1 := h d (by simp)
    have h2 := depth_all ds fun x hx => h x (by simp [hx])
    simp only [PyData.depthAll]
    omega
/-- a tuple of tuples of ints -/
structure Flat2 (d : PyData) : Prop where
  plain : d.plain = true
  lay : d.canLay0 = true
  depth : d.depth ≤ 4
theorem flat_int (i : Int) : (PyData.int i).plain = true ∧ (PyData.int i).canLay0 = true ∧ (PyData.int i).depth ≤ 2 := ⟨rfl, rfl, Nat.zero_le _⟩
theorem flat_tup {n : Nat} {ds : List PyData} (h : ∀ d ∈ ds, d.plain = true ∧ d.canLay0 = true ∧ d.depth ≤ n) : (PyData.tuple ds).plain = true ∧ (PyData.tuple ds).canLay0 = true ∧ (PyData.tuple ds).depth ≤ n + 1 := by
  refine ⟨?_, ?_, ?_⟩
  · rw [PyData.plain]; exact plain_all ds fun d hd => (h d hd).1
  · rw [PyData.canLay0]; exact lay_all ds fun d hd => (h d hd).2.1
  · rw [PyData.depth]; exact Nat.succ_le_succ (depth_all ds fun d hd => (h d hd).2.2)
theorem flat_runs (rs : List (Int × Int)) : Flat2 (dRuns rs) := by
  have := flat_tup (n := 3) (ds := rs.map dP2) fun d hd => by
    obtain ⟨r, _, rfl⟩ := List.mem_map.mp hd
    exact flat_tup fun d hd => by
      simp only [List.mem_cons, List.not_mem_nil, or_false] at hd
      rcases hd with rfl | rfl <;> exact flat_int _
  exact ⟨this.1, this.2.1, this.2.2⟩
theorem flat_rows (ls : List (List Int)) : Flat2 (dRows ls) := by
  have := flat_tup (n := 3) (ds := ls.map dInts) fun d hd => by
    obtain ⟨r, _, rfl⟩ := List.mem_map.mp hd
    exact flat_tup fun d hd => by
      obtain ⟨i, _, rfl⟩ := List.mem_map.mp hd
      exact flat_int _
  exact ⟨this.1, this.2.1, this.2.2⟩
theorem Flat2.shaped {d : PyData} (h : Flat2 d) : SeqAt.shaped d = true := by
  unfold SeqAt.shaped
  rw [h.lay, decide_eq_true (Nat.le_trans h.depth (by decide))]
  rfl
theorem Flat2.refl {d : PyData} (h : Flat2 d) : PyData.eqv d d = true := SeqAt.eqv_refl_plain d h.plain
section
variable {K : PySem.W.Frag} {H : Hp} {a : Addr}
theorem dp_ints : ∀ (cs : List Int), DpAll K H (cs.map V.int) (cs.map PyData.int)
  | [] => .nil
  | c :: cs => .cons (.int c) (dp_ints cs)
theorem dp_rows : ∀ {rs : List (Addr × List Int)}, (∀ r ∈ rs, SqT K H r.1 (r.2.map V.int)) → DpAll K H (rs.map fun r => V.ref r.1) ((rs.map fun r => r.2).map dInts)
  | [], _ => .nil
  | r :: rs, h => .cons (.tup (h r (by simp)) (dp_ints r.2)) (dp_rows fun x hx => h x (by simp [hx]))
theorem dp_runs : ∀ {zs : List Zp}, Pts K H zs → DpAll K H (refs zs) ((zs.map fun z => z.2).map dP2)
  | [], _ => .nil
  | z :: zs, h => .cons (.tup (h z (by simp)) (.cons (.int _) (.cons (.int _) .nil))) (dp_runs fun x hx => h x (by simp [hx]))
end
end My

namespace My
open PySem L2
/-! the steps of a reading -/
local macro_rules | `(tactic| walk_at "t") => `(tactic| first
  | assumption
  | exact tHere
  | exact lHere
  | (refine tOver (by assumption) ?_; walk_at "t")
  | (refine lOver (by assumption) ?_; walk_at "t")
  | (refine tSame (by assumption) ?_; walk_at "t")
  | (refine tBut (by assumption) (by assumption) ?_; walk_at "t"))
local macro_rules | `(tactic| walk_at "ix") => `(tactic| first | exact at0 | exact at1 | exact at2 | exact at3 | rfl)
local macro_rules | `(tactic| walk_at "r1") => `(tactic| first
  | refine ⟨_, rfl, ?_⟩
  | refine ⟨_, _, rfl, rfl, ?_⟩
  | refine ⟨rfl, ?_⟩
  | refine ⟨_, _, _, _, rfl, rfl, (by walk_at "t"), (by walk_at "ix"), ?_⟩
  | refine ⟨small rfl, ?_⟩)
local macro_rules | `(tactic| walk_at "r") => `(tactic| repeat walk_at "r1")

def top (i : Nat) : Stmt := PySem.Challenge.pw_trueatlas_k70_packed_sheets.main.body.getD i (.Pass ⟨0, 0, 0, 0⟩)
abbrev s_is_whole : Stmt := (top 4)
abbrev N_is_whole : List Str := ["value"]
theorem sc_is_whole : FnScope N_is_whole ["value"] (defScope s_is_whole) := ⟨rfl, rfl, rfl, by decide +kernel, rfl, by decide +kernel, by decide +kernel⟩

abbrev s_is_pair : Stmt := (top 5)
abbrev N_is_pair : List Str := ["value"]
theorem sc_is_pair : FnScope N_is_pair ["value"] (defScope s_is_pair) := ⟨rfl, rfl, rfl, by decide +kernel, rfl, by decide +kernel, by decide +kernel⟩

abbrev s_is_between : Stmt := (top 6)
abbrev N_is_between : List Str := ["value", "least", "most"]
theorem sc_is_between : FnScope N_is_between ["value", "least", "most"] (defScope s_is_between) := ⟨rfl, rfl, rfl, by decide +kernel, rfl, by decide +kernel, by decide +kernel⟩

abbrev s_need : Stmt := (top 7)
abbrev N_need : List Str := ["holds", "name"]
theorem sc_need : FnScope N_need ["holds", "name"] (defScope s_need) := ⟨rfl, rfl, rfl, by decide +kernel, rfl, by decide +kernel, by decide +kernel⟩

abbrev s_is_row : Stmt := (top 11)
abbrev N_is_row : List Str := ["value", "one"]
theorem sc_is_row : FnScope N_is_row ["value"] (defScope s_is_row) := ⟨rfl, rfl, rfl, by decide +kernel, rfl, by decide +kernel, by decide +kernel⟩

abbrev s_is_sheet : Stmt := (top 12)
abbrev N_is_sheet : List Str := ["value", "row"]
theorem sc_is_sheet : FnScope N_is_sheet ["value"] (defScope s_is_sheet) := ⟨rfl, rfl, rfl, by decide +kernel, rfl, by decide +kernel, by decide +kernel⟩

abbrev s_is_run : Stmt := (top 13)
abbrev N_is_run : List Str := ["value"]
theorem sc_is_run : FnScope N_is_run ["value"] (defScope s_is_run) := ⟨rfl, rfl, rfl, by decide +kernel, rfl, by decide +kernel, by decide +kernel⟩

abbrev s_is_packed : Stmt := (top 14)
abbrev N_is_packed : List Str := ["value", "first", "second", "count", "colour", "run"]
theorem sc_is_packed : FnScope N_is_packed ["value"] (defScope s_is_packed) := ⟨rfl, rfl, rfl, by decide +kernel, rfl, by decide +kernel, by decide +kernel⟩

abbrev s_packed_sheet : Stmt := (top 15)
abbrev N_packed_sheet : List Str := ["sheet", "runs", "colour", "row", "one"]
theorem sc_packed_sheet : FnScope N_packed_sheet ["sheet"] (defScope s_packed_sheet) := ⟨rfl, rfl, rfl, by decide +kernel, rfl, by decide +kernel, by decide +kernel⟩

abbrev s_unpacked_sheet : Stmt := (top 16)
abbrev N_unpacked_sheet : List Str := ["packed", "colours", "count", "colour", "_", "k"]
theorem sc_unpacked_sheet : FnScope N_unpacked_sheet ["packed"] (defScope s_unpacked_sheet) := ⟨rfl, rfl, rfl, by decide +kernel, rfl, by decide +kernel, by decide +kernel⟩

abbrev s__law_stream : Stmt := (top 18)
abbrev N__law_stream : List Str := ["script"]
theorem sc__law_stream : FnScope N__law_stream ["script"] (defScope s__law_stream) := ⟨rfl, rfl, rfl, by decide +kernel, rfl, by decide +kernel, by decide +kernel⟩

abbrev s__law_next : Stmt := (top 19)
abbrev N__law_next : List Str := ["stream", "many", "k", "cell", "digit"]
theorem sc__law_next : FnScope N__law_next ["stream", "many"] (defScope s__law_next) := ⟨rfl, rfl, rfl, by decide +kernel, rfl, by decide +kernel, by decide +kernel⟩

abbrev s__law_is_integer : Stmt := (top 20)
abbrev N__law_is_integer : List Str := ["actual"]
theorem sc__law_is_integer : FnScope N__law_is_integer ["actual"] (defScope s__law_is_integer) := ⟨rfl, rfl, rfl, by decide +kernel, rfl, by decide +kernel, by decide +kernel⟩

abbrev s__law_sheet : Stmt := (top 21)
abbrev N__law_sheet : List Str := ["stream", "palette", "rows", "k", "pick", "i"]
theorem sc__law_sheet : FnScope N__law_sheet ["stream"] (defScope s__law_sheet) := ⟨rfl, rfl, rfl, by decide +kernel, rfl, by decide +kernel, by decide +kernel⟩

abbrev s__law_runs : Stmt := (top 22)
abbrev N__law_runs : List Str := ["sheet", "runs", "row", "colour"]
theorem sc__law_runs : FnScope N__law_runs ["sheet"] (defScope s__law_runs) := ⟨rfl, rfl, rfl, by decide +kernel, rfl, by decide +kernel, by decide +kernel⟩

abbrev s__law_spoilt : Stmt := (top 23)
abbrev N__law_spoilt : List Str := ["stream", "packed", "at", "count", "colour", "rows", "pick"]
theorem sc__law_spoilt : FnScope N__law_spoilt ["stream", "packed"] (defScope s__law_spoilt) := ⟨rfl, rfl, rfl, by decide +kernel, rfl, by decide +kernel, by decide +kernel⟩

abbrev s__law_refused : Stmt := (top 24)
abbrev N__law_refused : List Str := ["packed", "e"]
theorem sc__law_refused : FnScope N__law_refused ["packed"] (defScope s__law_refused) := ⟨rfl, rfl, rfl, by decide +kernel, rfl, by decide +kernel, by decide +kernel⟩

abbrev s_law : Stmt := (top 25)
abbrev N_law : List Str := ["script", "stream", "sheet", "packed", "at", "wrong", "count", "colour"]
theorem sc_law : FnScope N_law ["script"] (defScope s_law) := ⟨rfl, rfl, rfl, by decide +kernel, rfl, by decide +kernel, by decide +kernel⟩

structure Txt (K : PySem.W.Frag) (mg : Str → Option Value) where
  a_is_whole : Addr
  d_is_whole : FuncData
  F_is_whole : Fun K "is_whole" "is_whole" s_is_whole a_is_whole d_is_whole
  m_is_whole : mg "is_whole" = some (.ref a_is_whole)
  b_is_whole : Binds K d_is_whole ["value"] []
  a_is_pair : Addr
  d_is_pair : FuncData
  F_is_pair : Fun K "is_pair" "is_pair" s_is_pair a_is_pair d_is_pair
  m_is_pair : mg "is_pair" = some (.ref a_is_pair)
  b_is_pair : Binds K d_is_pair ["value"] []
  a_is_between : Addr
  d_is_between : FuncData
  F_is_between : Fun K "is_between" "is_between" s_is_between a_is_between d_is_between
  m_is_between : mg "is_between" = some (.ref a_is_between)
  b_is_between : Binds K d_is_between ["value", "least", "most"] []
  a_need : Addr
  d_need : FuncData
  F_need : Fun K "need" "need" s_need a_need d_need
  m_need : mg "need" = some (.ref a_need)
  b_need : Binds K d_need ["holds", "name"] []
  a_is_row : Addr
  d_is_row : FuncData
  cc_is_row : Addr
  P_is_row : Addr
  F_is_row : FunT K "is_row" "is_row" s_is_row a_is_row d_is_row cc_is_row
  m_is_row : mg "is_row" = some (.ref a_is_row)
  b_is_row : Binds K d_is_row ["value"] []
  a_is_sheet : Addr
  d_is_sheet : FuncData
  cc_is_sheet : Addr
  P_is_sheet : Addr
  F_is_sheet : FunT K "is_sheet" "is_sheet" s_is_sheet a_is_sheet d_is_sheet cc_is_sheet
  m_is_sheet : mg "is_sheet" = some (.ref a_is_sheet)
  b_is_sheet : Binds K d_is_sheet ["value"] []
  a_is_run : Addr
  d_is_run : FuncData
  F_is_run : Fun K "is_run" "is_run" s_is_run a_is_run d_is_run
  m_is_run : mg "is_run" = some (.ref a_is_run)
  b_is_run : Binds K d_is_run ["value"] []
  a_is_packed : Addr
  d_is_packed : FuncData
  cc_is_packed : Addr
  P_is_packed : Addr
  F_is_packed : FunT K "is_packed" "is_packed" s_is_packed a_is_packed d_is_packed cc_is_packed
  m_is_packed : mg "is_packed" = some (.ref a_is_packed)
  b_is_packed : Binds K d_is_packed ["value"] []
  a_packed_sheet : Addr
  d_packed_sheet : FuncData
  F_packed_sheet : Fun K "packed_sheet" "packed_sheet" s_packed_sheet a_packed_sheet d_packed_sheet
  m_packed_sheet : mg "packed_sheet" = some (.ref a_packed_sheet)
  b_packed_sheet : Binds K d_packed_sheet ["sheet"] []
  a_unpacked_sheet : Addr
  d_unpacked_sheet : FuncData
  F_unpacked_sheet : Fun K "unpacked_sheet" "unpacked_sheet" s_unpacked_sheet a_unpacked_sheet d_unpacked_sheet
  m_unpacked_sheet : mg "unpacked_sheet" = some (.ref a_unpacked_sheet)
  b_unpacked_sheet : Binds K d_unpacked_sheet ["packed"] []
  a__law_stream : Addr
  d__law_stream : FuncData
  F__law_stream : Fun K "_law_stream" "_law_stream" s__law_stream a__law_stream d__law_stream
  m__law_stream : mg "_law_stream" = some (.ref a__law_stream)
  b__law_stream : Binds K d__law_stream ["script"] []
  a__law_next : Addr
  d__law_next : FuncData
  F__law_next : Fun K "_law_next" "_law_next" s__law_next a__law_next d__law_next
  m__law_next : mg "_law_next" = some (.ref a__law_next)
  b__law_next : Binds K d__law_next ["stream", "many"] []
  a__law_is_integer : Addr
  d__law_is_integer : FuncData
  F__law_is_integer : Fun K "_law_is_integer" "_law_is_integer" s__law_is_integer a__law_is_integer d__law_is_integer
  m__law_is_integer : mg "_law_is_integer" = some (.ref a__law_is_integer)
  b__law_is_integer : Binds K d__law_is_integer ["actual"] []
  a__law_sheet : Addr
  d__law_sheet : FuncData
  F__law_sheet : Fun K "_law_sheet" "_law_sheet" s__law_sheet a__law_sheet d__law_sheet
  m__law_sheet : mg "_law_sheet" = some (.ref a__law_sheet)
  b__law_sheet : Binds K d__law_sheet ["stream"] []
  a__law_runs : Addr
  d__law_runs : FuncData
  F__law_runs : Fun K "_law_runs" "_law_runs" s__law_runs a__law_runs d__law_runs
  m__law_runs : mg "_law_runs" = some (.ref a__law_runs)
  b__law_runs : Binds K d__law_runs ["sheet"] []
  a__law_spoilt : Addr
  d__law_spoilt : FuncData
  F__law_spoilt : Fun K "_law_spoilt" "_law_spoilt" s__law_spoilt a__law_spoilt d__law_spoilt
  m__law_spoilt : mg "_law_spoilt" = some (.ref a__law_spoilt)
  b__law_spoilt : Binds K d__law_spoilt ["stream", "packed"] []
  a__law_refused : Addr
  d__law_refused : FuncData
  F__law_refused : Fun K "_law_refused" "_law_refused" s__law_refused a__law_refused d__law_refused
  m__law_refused : mg "_law_refused" = some (.ref a__law_refused)
  b__law_refused : Binds K d__law_refused ["packed"] []
  a_law : Addr
  d_law : FuncData
  F_law : Fun K "law" "law" s_law a_law d_law
  m_law : mg "law" = some (.ref a_law)
  b_law : Binds K d_law ["script"] []
  n_abs : mg "abs" = none
  n_all : mg "all" = none
  n_bool : mg "bool" = none
  n_int : mg "int" = none
  n_isinstance : mg "isinstance" = none
  n_len : mg "len" = none
  n_list : mg "list" = none
  n_range : mg "range" = none
  n_sum : mg "sum" = none
  n_tuple : mg "tuple" = none
  n_zip : mg "zip" = none
  c_MOST_COLOUR : ∃ t, mg "MOST_COLOUR" = some (.int (63) t)
  c_SIDE : ∃ t, mg "SIDE" = some (.int (16) t)
  C_BadValue : Addr
  i_BadValue : Addr
  bv : PySem.BvX.BvTxt K mg C_BadValue i_BadValue
/-- the tables of the defs that hold generator expressions -/
def Txt.ts {K : PySem.W.Frag} {mg : Str → Option Value} (T : Txt K mg) : List Addr := [T.P_is_row, T.P_is_sheet, T.P_is_packed]
structure TxtB {K : PySem.W.Frag} {mg : Str → Option Value} (T : Txt K mg) (base : Heap) (w : World) : Prop where
  t_is_row : GxR.TabB base mg T.cc_is_row T.P_is_row
  t_is_sheet : GxR.TabB base mg T.cc_is_sheet T.P_is_sheet
  t_is_packed : GxR.TabB base mg T.cc_is_packed T.P_is_packed

section
variable {P : Program} {w : World} {K : PySem.W.Frag} {mg : Str → Option Value} {base : Heap}


theorem ok_is_whole (T : Txt K mg) (TB : TxtB T base w) : FnOk P w K mg base CX0 1 T.a_is_whole T.d_is_whole ["value"] (fun vs H Q _ => ∃ x n, vs = [x] ∧ Ty K H x n ∧ Q (.bl (n == "int")) H) := by
  refine T.F_is_whole.ok sc_is_whole (fun vs H Q E h => ?_) (fun cdv A outer s H vs Q E hr h => ?_)
  · obtain ⟨x, n, rfl, hx, k⟩ := h
    rfl
  · obtain ⟨x, n, rfl, hx, k⟩ := h
    refine ⟨_, (pss_one (ps_ret (pe_and (pe_callB call_isi (by rfl) T.n_isinstance (by decide +kernel) (pa_cons (pv 0) (pa_cons (pe_bltn (v := .ty "int") (by rfl) T.n_int (by decide +kernel) rfl) pa_nil))) (pe_one (pe_not (pe_callB call_isi (by rfl) T.n_isinstance (by decide +kernel) (pa_cons (pv 0) (pa_cons (pe_bltn (v := .ty "bool") (by rfl) T.n_bool (by decide +kernel) rfl) pa_nil)))))))), ?_⟩
    refine ⟨_, rfl, ⟨_, _, _, _, _, rfl, .ty _, (hx).x, isaN (Ty.six hx) (by simp [My.six]), ⟨_, rfl, ?_⟩⟩⟩
    cases hx
    all_goals first | (refine ifTr (by decide) ?_) | (refine ifFa (by decide) ?_; exact k)
    · exact ⟨_, rfl, ⟨_, _, _, _, _, rfl, .ty _, ((Ty.bl _)).x, isaN (by simp [My.six]) (by simp [My.six]), ⟨_, rfl, k⟩⟩⟩
    · exact ⟨_, rfl, ⟨_, _, _, _, _, rfl, .ty _, ((Ty.int _)).x, isaN (by simp [My.six]) (by simp [My.six]), ⟨_, rfl, k⟩⟩⟩

theorem ok_is_pair (T : Txt K mg) (TB : TxtB T base w) : FnOk P w K mg base CX0 1 T.a_is_pair T.d_is_pair ["value"] (fun vs H Q _ => ∃ x n, vs = [x] ∧ Ty K H x n ∧ (n = "tuple" → ∃ a xs, x = .ref a ∧ SqT K H a xs ∧ Q (.bl (xs.length == 2)) H) ∧ (n ≠ "tuple" → Q (.bl false) H)) := by
  refine T.F_is_pair.ok sc_is_pair (fun vs H Q E h => ?_) (fun cdv A outer s H vs Q E hr h => ?_)
  · obtain ⟨x, n, rfl, hx, k1, k2⟩ := h
    rfl
  · obtain ⟨x, n, rfl, hx, k1, k2⟩ := h
    refine ⟨_, (pss_one (ps_ret (pe_and (pe_callB call_isi (by rfl) T.n_isinstance (by decide +kernel) (pa_cons (pv 0) (pa_cons (pe_bltn (v := .ty "tuple") (by rfl) T.n_tuple (by decide +kernel) rfl) pa_nil))) (pe_one (pe_cmpR op_eq (pe_callB call_len (by rfl) T.n_len (by decide +kernel) (pa_cons (pv 0) pa_nil)) pe_int (nomark _)))))), ?_⟩
    refine ⟨_, rfl, ⟨_, _, _, _, _, rfl, .ty _, (hx).x, isaN (Ty.six hx) (by simp [My.six]), ⟨_, rfl, ?_⟩⟩⟩
    by_cases e : n = "tuple"
    · subst e
      refine ifTr (by decide) ?_
      obtain ⟨a, xs, rfl, ht, k⟩ := k1 rfl
      refine ⟨_, rfl, _, _, rfl, .inr ⟨xs, ht, rfl⟩, rfl, ?_⟩
      have e : decide (V.int (xs.length : Int) = V.int 2) = (xs.length == 2) := by
        by_cases q : xs.length = 2
        · rw [q]; rfl
        · rw [beq_false_of_ne q]; exact decide_eq_false fun z => q (by injection z with z; omega)
      rw [e]
      exact k
    · refine ifFa ?_ (k2 e)
      cases hx <;> first | rfl | exact absurd rfl e

theorem ok_is_between (T : Txt K mg) (TB : TxtB T base w) : FnOk P w K mg base CX0 2 T.a_is_between T.d_is_between ["value", "least", "most"] (fun vs H Q _ => ∃ x n lo hi, vs = [x, .int lo, .int hi] ∧ Ty K H x n ∧ Q (.bl (betB lo hi x)) H) := by
  refine T.F_is_between.ok sc_is_between (fun vs H Q E h => ?_) (fun cdv A outer s H vs Q E hr h => ?_)
  · obtain ⟨x, n, lo, hi, rfl, hx, k⟩ := h
    rfl
  · obtain ⟨x, n, lo, hi, rfl, hx, k⟩ := h
    refine ⟨_, (pss_one (ps_ret (pe_and (pe_call (ok_is_whole T TB) (hr.mono (by omega)) rfl T.m_is_whole T.F_is_whole.kp T.b_is_whole .nil pass0 (pa_cons (pv 0) pa_nil)) (pe_one (pe_chain op_le op_le (pv 1) (pv 0) (pv 2)))))), ?_⟩
    refine ⟨_, rfl, _, _, rfl, hx, ⟨_, rfl, ?_⟩⟩
    cases hx
    all_goals first | (refine ifTr (by decide) ?_) | (refine ifFa (by decide) ?_; exact k)
    rename_i i
    have k : Q (.bl (decide (lo ≤ i) && decide (i ≤ hi))) H := k
    refine ⟨_, rfl, _, rfl, _, _, rfl, rfl, ⟨_, rfl, ?_⟩⟩
    refine ifB (fun e => ?_) (fun e => ?_)
    · refine ⟨_, rfl, _, _, rfl, rfl, ?_⟩
      rw [e, Bool.true_and] at k
      exact k
    · rw [e, Bool.false_and] at k
      exact k

theorem ok_need (T : Txt K mg) (TB : TxtB T base w) : FnOk P w K mg base (L2.CX P w) 2 T.a_need T.d_need ["holds", "name"] (fun vs H Q E => ∃ b x, vs = [.bl b, x] ∧ (b = true → Q .non H) ∧ (b = false → Rz T.C_BadValue x H E)) := by
  refine T.F_need.okX sc_need (fun vs H Q E h => ?_) (fun cdv A outer s H vs Q E hr h => ?_)
  · obtain ⟨b, x, rfl, k1, k2⟩ := h
    rfl
  · obtain ⟨b, x, rfl, k1, k2⟩ := h
    refine ⟨_, (pss_one (ps_if (pt_not (pt_val (pv 0)))
        (pss_one (ps_raiseBV rfl T.bv hr (takes_of rfl rfl rfl rfl) (by exact (pa_cons (pv 1) pa_nil))))
        pss_nil)), ?_⟩
    cases b with
    | true => exact ⟨_, rfl, _, rfl, k1 rfl⟩
    | false => exact ⟨_, rfl, _, rfl, _, rfl, _, rfl, fun d hd => k2 rfl d hd⟩

theorem ok_is_row (T : Txt K mg) (TB : TxtB T base w) : FnOk P w K mg base CX0 6 T.a_is_row T.d_is_row ["value"] (fun vs H Q _ => ∃ x b, vs = [x] ∧ RowV K H x b ∧ Tbs T.ts H ∧ ∀ H', Same H H' → Q (.bl b) H') := by
  refine T.F_is_row.ok sc_is_row (fun vs H Q E h => ?_) (fun A outer s H vs Q E hr h => ?_)
  · obtain ⟨x, b, rfl, ⟨n, hx, h1, h2⟩, tb, k⟩ := h
    rfl
  · obtain ⟨x, b, rfl, ⟨n, hx, h1, h2⟩, tb, k⟩ := h
    refine ⟨_, (pss_one (ps_ret (pe_and (pe_callB call_isi (by rfl) T.n_isinstance (by decide +kernel) (pa_cons (pv 0) (pa_cons (pe_bltn (v := .ty "tuple") (by rfl) T.n_tuple (by decide +kernel) rfl) pa_nil))) (pe_and (pe_cmpR op_eq (pe_callB call_len (by rfl) T.n_len (by decide +kernel) (pa_cons (pv 0) pa_nil)) (pe_gI T.c_SIDE) (nomark _)) (pe_one (Gx.pe_gen false (own := [("one", 1)]) (g := gName 1) (tt := tYes) (x := "one") (k := 2) rfl (hr.mono (by omega)) rfl sc_is_row.nd rfl T.n_all TB.t_is_row rfl (Gx.genS_by rfl rfl (by decide +kernel) rfl rfl (by rfl)) (blkOk_by (own := [("one", 1)]) (N := N_is_row) (sc := defScope s_is_row) (by decide +kernel)) (pi_tup (pv 0)) (fun _ _ _ _ _ _ _ hB => (pg_name (i := 1) sc_is_row.nd rfl (Or.inl rfl))) (fun _ _ _ _ _ _ _ hB => pts_nil) (fun _ _ _ _ _ _ _ hB => (pe_call (ok_is_between T TB) (hB.mono (by omega)) rfl T.m_is_between T.F_is_between.kp T.b_is_between .nil pass0 (pa_cons (pv 1) (pa_cons pe_int (pa_cons (pe_gI T.c_MOST_COLOUR) pa_nil))))) (fun _ => rfl))))))), ?_⟩
    refine ⟨_, rfl, _, _, _, _, _, rfl, .ty _, hx.x, isaN hx.six (by simp [My.six]), _, rfl, ?_⟩
    by_cases e : n = "tuple"
    rotate_left
    · rw [h2 e] at k
      refine ifFa ?_ (k _ (Same.refl _))
      cases hx <;> first | rfl | exact absurd rfl e
    subst e
    refine ifTr (by decide) ?_
    obtain ⟨a, xs, bs, rfl, ht, hl, hb, hr, rfl⟩ := h1 rfl
    have hk : ∀ H', Same H H' → Q (.bl (L16 xs.length && bs.all id)) H' := k
    refine ⟨_, rfl, _, _, rfl, .inr ⟨_, ht, rfl⟩, rfl, _, rfl, ?_⟩
    refine ifB (fun e1 => ?_) (fun e1 => ?_)
    rotate_left
    · have := hk _ (Same.refl _)
      rw [show L16 xs.length = false from e1, Bool.false_and] at this
      exact this
    have kq : ∀ H', Same H H' → Q (.bl (bs.all id)) H' := fun H' s => by
      have := hk H' s
      rw [show L16 xs.length = true from e1, Bool.true_and] at this
      exact this
    refine ⟨_, rfl, _, rfl, ⟨_, ht⟩, tb _ (by simp [Txt.ts]), fun H2 g2 => ?_⟩
    have s2 := same_tab (tb _ (by simp [Txt.ts])) g2
    refine Gx.gen_walk walk_tup (fun i H' => Same H H' ∧ ∀ j c, j < i → bs[j]? = some c → c = true) ⟨s2, fun j c h => absurd h (Nat.not_lt_zero _)⟩ (fun i H' h => tSame h.1 ht) ?_ ?_
    · rintro i x H3 H4 hi ⟨s3, ha⟩ ⟨rfl, hxi⟩
      refine ⟨rfl, yesI ?_⟩
      refine iteT ?_
      have hbi : bs[i]? = some bs[i] := List.getElem?_eq_getElem (by omega)
      obtain ⟨⟨m, tm⟩, q1⟩ := hr i x _ hxi hbi
      have s4 := s3
      refine ⟨_, rfl, _, _, _, _, rfl, tm.same s3, _, rfl, ?_⟩
      rw [← q1]
      by_cases q : bs[i] = false
      · refine (if_pos q).mpr ?_
        have := kq _ s4
        rw [show bs.all id = false from List.all_eq_false.mpr ⟨bs[i], List.mem_of_getElem? hbi, by rw [q]; decide⟩] at this
        exact this
      · refine (if_neg q).mpr ⟨s4, fun j c hj hc => ?_⟩
        by_cases z : j = i
        · subst z
          rw [hbi] at hc
          cases hc
          cases w : bs[j] with
          | true => rfl
          | false => exact absurd w q
        · exact ha j c (by omega) hc
    · rintro H3 ⟨s3, ha⟩
      have := kq _ s3
      rw [show bs.all id = true from all_get.mpr fun i c h => by have q := (List.getElem?_eq_some_iff.mp h).1; exact ha i c (by omega) h] at this
      exact this

theorem ok_is_sheet (T : Txt K mg) (TB : TxtB T base w) : FnOk P w K mg base CX0 10 T.a_is_sheet T.d_is_sheet ["value"] (fun vs H Q _ => ∃ x b, vs = [x] ∧ ShV K H x b ∧ Tbs T.ts H ∧ ∀ H', Same H H' → Q (.bl b) H') := by
  refine T.F_is_sheet.ok sc_is_sheet (fun vs H Q E h => ?_) (fun A outer s H vs Q E hr h => ?_)
  · obtain ⟨x, b, rfl, ⟨n, hx, h1, h2⟩, tb, k⟩ := h
    rfl
  · obtain ⟨x, b, rfl, ⟨n, hx, h1, h2⟩, tb, k⟩ := h
    refine ⟨_, (pss_one (ps_ret (pe_and (pe_callB call_isi (by rfl) T.n_isinstance (by decide +kernel) (pa_cons (pv 0) (pa_cons (pe_bltn (v := .ty "tuple") (by rfl) T.n_tuple (by decide +kernel) rfl) pa_nil))) (pe_and (pe_cmpR op_eq (pe_callB call_len (by rfl) T.n_len (by decide +kernel) (pa_cons (pv 0) pa_nil)) (pe_gI T.c_SIDE) (nomark _)) (pe_one (Gx.pe_gen false (own := [("row", 1)]) (g := gName 1) (tt := tYes) (x := "row") (k := 6) rfl (hr.mono (by omega)) rfl sc_is_sheet.nd rfl T.n_all TB.t_is_sheet rfl (Gx.genS_by rfl rfl (by decide +kernel) rfl rfl (by rfl)) (blkOk_by (own := [("row", 1)]) (N := N_is_sheet) (sc := defScope s_is_sheet) (by decide +kernel)) (pi_tup (pv 0)) (fun _ _ _ _ _ _ _ hB => (pg_name (i := 1) sc_is_sheet.nd rfl (Or.inl rfl))) (fun _ _ _ _ _ _ _ hB => pts_nil) (fun _ _ _ _ _ _ _ hB => (pe_call (ok_is_row T TB) (hB.mono (by omega)) rfl T.m_is_row T.F_is_row.kp T.b_is_row .nil pass0 (pa_cons (pv 1) pa_nil))) (fun _ => rfl))))))), ?_⟩
    refine ⟨_, rfl, _, _, _, _, _, rfl, .ty _, hx.x, isaN hx.six (by simp [My.six]), _, rfl, ?_⟩
    by_cases e : n = "tuple"
    rotate_left
    · rw [h2 e] at k
      refine ifFa ?_ (k _ (Same.refl _))
      cases hx <;> first | rfl | exact absurd rfl e
    subst e
    refine ifTr (by decide) ?_
    obtain ⟨a, xs, bs, rfl, ht, hl, hb, hr, rfl⟩ := h1 rfl
    have hk : ∀ H', Same H H' → Q (.bl (L16 xs.length && bs.all id)) H' := k
    refine ⟨_, rfl, _, _, rfl, .inr ⟨_, ht, rfl⟩, rfl, _, rfl, ?_⟩
    refine ifB (fun e1 => ?_) (fun e1 => ?_)
    rotate_left
    · have := hk _ (Same.refl _)
      rw [show L16 xs.length = false from e1, Bool.false_and] at this
      exact this
    have kq : ∀ H', Same H H' → Q (.bl (bs.all id)) H' := fun H' s => by
      have := hk H' s
      rw [show L16 xs.length = true from e1, Bool.true_and] at this
      exact this
    refine ⟨_, rfl, _, rfl, ⟨_, ht⟩, tb _ (by simp [Txt.ts]), fun H2 g2 => ?_⟩
    have s2 := same_tab (tb _ (by simp [Txt.ts])) g2
    refine Gx.gen_walk walk_tup (fun i H' => Same H H' ∧ ∀ j c, j < i → bs[j]? = some c → c = true) ⟨s2, fun j c h => absurd h (Nat.not_lt_zero _)⟩ (fun i H' h => tSame h.1 ht) ?_ ?_
    · rintro i x H3 H4 hi ⟨s3, ha⟩ ⟨rfl, hxi⟩
      refine ⟨rfl, yesI ?_⟩
      refine iteT ?_
      have hbi : bs[i]? = some bs[i] := List.getElem?_eq_getElem (by omega)
      refine ⟨_, rfl, _, _, rfl, (hr i x _ hxi hbi).same s3, tb.same s3, fun H5 s5 => ⟨_, rfl, ?_⟩⟩
      have s4 := s3.trans s5
      by_cases q : bs[i] = false
      · refine (if_pos q).mpr ?_
        have := kq _ s4
        rw [show bs.all id = false from List.all_eq_false.mpr ⟨bs[i], List.mem_of_getElem? hbi, by rw [q]; decide⟩] at this
        exact this
      · refine (if_neg q).mpr ⟨s4, fun j c hj hc => ?_⟩
        by_cases z : j = i
        · subst z
          rw [hbi] at hc
          cases hc
          cases w : bs[j] with
          | true => rfl
          | false => exact absurd w q
        · exact ha j c (by omega) hc
    · rintro H3 ⟨s3, ha⟩
      have := kq _ s3
      rw [show bs.all id = true from all_get.mpr fun i c h => by have q := (List.getElem?_eq_some_iff.mp h).1; exact ha i c (by omega) h] at this
      exact this

theorem ok_is_run (T : Txt K mg) (TB : TxtB T base w) : FnOk P w K mg base CX0 3 T.a_is_run T.d_is_run ["value"] (fun vs H Q _ => ∃ x b, vs = [x] ∧ RunV K H x b ∧ Q (.bl b) H) := by
  refine T.F_is_run.ok sc_is_run (fun vs H Q E h => ?_) (fun cdv A outer s H vs Q E hr h => ?_)
  · obtain ⟨x, b, rfl, ⟨n, hx, h1, h2⟩, k⟩ := h
    rfl
  · obtain ⟨x, b, rfl, ⟨n, hx, h1, h2⟩, k⟩ := h
    refine ⟨_, (pss_one (ps_ret (pe_and (pe_call (ok_is_pair T TB) (hr.mono (by omega)) rfl T.m_is_pair T.F_is_pair.kp T.b_is_pair .nil pass0 (pa_cons (pv 0) pa_nil)) (pe_and (pe_call (ok_is_between T TB) (hr.mono (by omega)) rfl T.m_is_between T.F_is_between.kp T.b_is_between .nil pass0 (pa_cons (pe_ix (r := rIxT K) ix_tup (pv 0) pe_int (fun _ _ => rfl)) (pa_cons pe_int (pa_cons (pe_op op_mul (pe_gI T.c_SIDE) (pe_gI T.c_SIDE)) pa_nil)))) (pe_one (pe_call (ok_is_between T TB) (hr.mono (by omega)) rfl T.m_is_between T.F_is_between.kp T.b_is_between .nil pass0 (pa_cons (pe_ix (r := rIxT K) ix_tup (pv 0) pe_int (fun _ _ => rfl)) (pa_cons pe_int (pa_cons (pe_gI T.c_MOST_COLOUR) pa_nil))))))))), ?_⟩
    refine ⟨_, rfl, _, _, rfl, hx, fun e => ?_, fun e => ?_⟩
    rotate_left
    · rw [h2 e] at k
      exact ⟨_, rfl, k⟩
    obtain ⟨a, xs, rfl, ht, hm, rfl⟩ := h1 e
    refine ⟨a, xs, rfl, ht, _, rfl, ?_⟩
    match xs, ht, hm, k with
    | [], _, _, k => exact iteF k
    | [_], _, _, k => exact iteF k
    | [u, v], ht, hm, k =>
      refine iteT ?_
      obtain ⟨m1, t1⟩ := hm u (by simp)
      obtain ⟨m2, t2⟩ := hm v (by simp)
      have k : Q (.bl (betB 1 256 u && betB 0 63 v)) H := k
      refine ⟨_, rfl, _, _, _, _, rfl, rfl, ht, at0, _, _, rfl, rfl, .inl ⟨by decide, by decide⟩, _, _, _, _, rfl, t1, _, rfl, ?_⟩
      refine ifB (fun e1 => ?_) (fun e1 => ?_)
      · refine ⟨_, rfl, _, _, _, _, rfl, rfl, ht, at1, _, _, _, _, rfl, t2, ?_⟩
        rw [show betB 1 256 u = true from e1, Bool.true_and] at k
        exact k
      · rw [show betB 1 256 u = false from e1, Bool.false_and] at k
        exact k
    | u1 :: u2 :: u3 :: r, _, _, k =>
      rw [show ((u1 :: u2 :: u3 :: r).length == 2) = false from beq_false_of_ne (by simp)]
      exact iteF k

theorem ok_is_packed (T : Txt K mg) (TB : TxtB T base w) : FnOk P w K mg base CX0 7 T.a_is_packed T.d_is_packed ["value"] (fun vs H Q _ => ∃ x b, vs = [x] ∧ PkV K H x b ∧ Tbs T.ts H ∧ ∀ H', Same H H' → Q (.bl b) H') := by
  refine T.F_is_packed.ok sc_is_packed (fun vs H Q E h => ?_) (fun A outer s H vs Q E hr h => ?_)
  · obtain ⟨x, b, rfl, hx, tb, k⟩ := h
    rfl
  · obtain ⟨x, b, rfl, hx, tb, k⟩ := h
    refine ⟨_, (pss_cons (ps_if (PW.pt (pw_or (pt_not (pt_val (pe_callB call_isi (by rfl) T.n_isinstance (by decide +kernel) (pa_cons (pv 0) (pa_cons (pe_bltn (v := .ty "tuple") (by rfl) T.n_tuple (by decide +kernel) rfl) pa_nil))))) (pw_or1 (pt_not (pt_val (Gx.pe_gen false (own := [("run", 5)]) (g := gName 5) (tt := tYes) (x := "run") (k := 3) rfl (hr.mono (by omega)) rfl sc_is_packed.nd rfl T.n_all TB.t_is_packed rfl (Gx.genS_by rfl rfl (by decide +kernel) rfl rfl (by rfl)) (blkOk_by (own := [("run", 5)]) (N := N_is_packed) (sc := defScope s_is_packed) (by decide +kernel)) (pi_tup (pv 0)) (fun _ _ _ _ _ _ _ hB => (pg_name (i := 5) sc_is_packed.nd rfl (Or.inl rfl))) (fun _ _ _ _ _ _ _ hB => pts_nil) (fun _ _ _ _ _ _ _ hB => (pe_call (ok_is_run T TB) (hB.mono (by omega)) rfl T.m_is_run T.F_is_run.kp T.b_is_run .nil pass0 (pa_cons (pv 5) pa_nil))) (fun _ => rfl)))))))
        (pss_one (ps_ret pe_bl))
        pss_nil)
      (pss_cons (ps_if (pt_cmpR op_ne (Gx.pe_sum (own := [("count", 3), ("colour", 4)]) (g := gTup K 2 (gCons (gName 3) (gCons (gName 4) gNil))) (tt := tYes) (x := "count") (k := 0) (hr.mono (by omega)) rfl sc_is_packed.nd rfl T.n_sum TB.t_is_packed rfl (Gx.genS_by rfl rfl (by decide +kernel) rfl rfl (by rfl)) (blkOk_by (own := [("count", 3), ("colour", 4)]) (N := N_is_packed) (sc := defScope s_is_packed) (by decide +kernel)) (pi_tup (pv 0)) (fun _ _ _ _ _ _ _ hB => (pg_tup (by rfl) (pgs_cons (pg_name (i := 3) sc_is_packed.nd rfl (Or.inl rfl)) (pgs_cons (pg_name (i := 4) sc_is_packed.nd rfl (Or.inl rfl)) pgs_nil)))) (fun _ _ _ _ _ _ _ hB => pts_nil) (fun _ _ _ _ _ _ _ hB => (pv 3)) (fun _ => rfl)) (pe_op op_mul (pe_gI T.c_SIDE) (pe_gI T.c_SIDE)) (nomark _))
        (pss_one (ps_ret pe_bl))
        pss_nil)
      (pss_one (ps_ret (Gx.pe_gen false (own := [("first", 1), ("second", 2)]) (g := gTup K 2 (gCons (gName 1) (gCons (gName 2) gNil))) (tt := tYes) (x := "first") (k := 0) rfl (hr.mono (by omega)) rfl sc_is_packed.nd rfl T.n_all TB.t_is_packed rfl (Gx.genS_by rfl rfl (by decide +kernel) rfl rfl (by rfl)) (blkOk_by (own := [("first", 1), ("second", 2)]) (N := N_is_packed) (sc := defScope s_is_packed) (by decide +kernel)) (RZ.pi_zipA rfl T.n_zip (pa_cons (pv 0) (pa_cons (pe_slice sl_tupA (pv 0) (po_some pe_int) po_none) pa_nil))) (fun _ _ _ _ _ _ _ hB => (pg_tup (by rfl) (pgs_cons (pg_name (i := 1) sc_is_packed.nd rfl (Or.inl rfl)) (pgs_cons (pg_name (i := 2) sc_is_packed.nd rfl (Or.inl rfl)) pgs_nil)))) (fun _ _ _ _ _ _ _ hB => pts_nil) (fun _ _ _ _ _ _ _ hB => (pe_cmpR op_ne (pe_ix (r := rIxT K) ix_tup (pv 1) pe_int (fun _ _ => rfl)) (pe_ix (r := rIxT K) ix_tup (pv 2) pe_int (fun _ _ => rfl)) (nomark _))) (fun _ => rfl)))))), ?_⟩
    have tb0 := tb
    rcases hx with ⟨a, zs, rfl, hz, hl, hb⟩ | ⟨⟨n, hx, h1, h2⟩, rfl⟩
    rotate_left
    · refine ⟨_, rfl, _, _, _, _, _, rfl, .ty _, hx.x, isaN hx.six (by simp [My.six]), _, rfl, ?_⟩
      by_cases e : n = "tuple"
      rotate_left
      · refine ifTr ?_ (iteT (k _ (Same.refl _)))
        cases hx <;> first | rfl | exact absurd rfl e
      subst e
      refine ifFa (by decide) ?_
      obtain ⟨a, xs, bs, rfl, ht, hl, hb, hr, hf⟩ := h1 rfl
      have hf : bs.all id = false := hf.symm
      refine Gx.not_named (Gx.gen_named fun Q' hQ => ?_)
      refine ⟨_, rfl, _, rfl, ⟨_, ht⟩, tb _ (by simp [Txt.ts]), fun H2 g2 => ?_⟩
      have s2 := same_tab (tb _ (by simp [Txt.ts])) g2
      refine Gx.gen_walk walk_tup (fun i H' => Same H H' ∧ ∀ j c, j < i → bs[j]? = some c → c = true) ⟨s2, fun j c h => absurd h (Nat.not_lt_zero _)⟩ (fun i H' h => tSame h.1 ht) ?_ ?_
      · rintro i x H3 H4 hi ⟨s3, ha⟩ ⟨rfl, hxi⟩
        refine ⟨rfl, yesI ?_⟩
        refine iteT ?_
        have hbi : bs[i]? = some bs[i] := List.getElem?_eq_getElem (by omega)
        refine ⟨_, rfl, _, _, rfl, (hr i x _ hxi hbi).same s3, _, rfl, ?_⟩
        by_cases q : bs[i] = false
        · refine (if_pos q).mpr ?_
          rw [hQ]
          exact ⟨_, rfl, iteT (k _ s3)⟩
        · refine (if_neg q).mpr ⟨s3, fun j c hj hc => ?_⟩
          by_cases z : j = i
          · subst z
            rw [hbi] at hc
            cases hc
            cases w : bs[j] with
            | true => rfl
            | false => exact absurd w q
          · exact ha j c (by omega) hc
      · rintro H3 ⟨s3, ha⟩
        rw [show bs.all id = true from all_get.mpr fun i c h => by have q := (List.getElem?_eq_some_iff.mp h).1; exact ha i c (by omega) h] at hf
        cases hf
    have hx : Ty K H (.ref a) "tuple" := .tup hz.t
    refine ⟨_, rfl, _, _, _, _, _, rfl, .ty _, hx.x, isaN hx.six (by simp [My.six]), _, rfl, ?_⟩
    refine ifFa (by decide) ?_
    have ln : (refs zs).length = zs.length := List.length_map _
    refine Gx.not_named (Gx.gen_named fun Q' hQ => ?_)
    refine ⟨_, rfl, _, rfl, ⟨_, hz.t⟩, tb _ (by simp [Txt.ts]), fun H2 g2 => ?_⟩
    have s2 := same_tab (tb _ (by simp [Txt.ts])) g2
    refine Gx.gen_walk walk_tup (fun i H' => Same H H') s2 (fun i H' h => tSame h hz.t) ?_ ?_
    · rintro i x H3 H4 hi s3 ⟨rfl, hxi⟩
      refine ⟨rfl, yesI ?_⟩
      refine iteT ?_
      exact ⟨_, rfl, _, _, rfl, (runs_ok hz.p hz.ok x (List.mem_of_getElem? hxi)).same s3, _, rfl, (if_neg (by decide)).mpr s3⟩
    intro H3 s3
    rw [hQ]
    refine ⟨_, rfl, iteF ?_⟩
    have tb := tb.same s3
    have hz3 := hz.same s3
    -- the sum
    unfold tNext
    dsimp only
    refine Gx.step_sum fun Q' hQ => ?_
    refine ⟨_, rfl, _, rfl, ⟨_, hz3.t⟩, tb _ (by simp [Txt.ts]), fun H4 g4 => ?_⟩
    have s4 := s3.trans (same_tab (tb _ (by simp [Txt.ts])) g4)
    refine Gx.sum_walk walk_tup (fun i t H' => Same H H' ∧ t = tot (zs.take i) ∧ 0 ≤ t ∧ t ≤ 256 * (i : Int)) ⟨s4, rfl, Int.le_refl _, by omega⟩ (fun i t H' h => tSame h.1 hz.t) ?_ ?_
    · rintro i t x H5 H6 hi ⟨s5, ht, t0, t1⟩ ⟨rfl, hxi⟩
      rw [List.getElem?_map] at hxi
      obtain ⟨z, g1, rfl⟩ := Option.map_eq_some_iff.mp hxi
      have hm := List.mem_of_getElem? g1
      obtain ⟨⟨c0, c1⟩, _⟩ := hz.ok z hm
      have hi : i < 300 := by omega
      refine ⟨_, _, rfl, tSame s5 (hz.p z hm), rfl, _, _, rfl, _, _, rfl, rfl, ⟨rfl, yesI ?_⟩⟩
      refine iteT ?_
      refine ⟨_, rfl, _, rfl, ⟨by omega, by omega⟩, ⟨by omega, by omega⟩, s5, ?_, by omega, by omega⟩
      unfold tot at ht ⊢
      rw [List.take_succ, g1, List.map_append, List.sum_append, ht]
      simp
    rintro t H5 ⟨s5, ht, t0, t1⟩
    rw [ln, List.take_length] at ht
    rw [hQ]
    refine ⟨_, _, rfl, rfl, .inl ⟨by decide, by decide⟩, rfl, _, rfl, ?_⟩
    refine ifND (fun e => ?_) (fun e => ?_)
    · have e2 : b = false := by
        cases b with
        | false => rfl
        | true => exact absurd (by rw [ht, (hb.mp rfl).1]; rfl) e
      have := k _ s5
      rw [e2] at this
      exact this
    have e : t = 256 := by injection e
    have tb := tb0.same s5
    have hz5 := hz.same s5
    refine ⟨_, rfl, _, rfl, _, rfl, ?_⟩
    refine noPart (slA_of hz5.t fun q H6 s6 hq => ?_)
    rw [show ((1 : Int)) = ((1 : Nat) : Int) from rfl, cut_drop] at hq
    have s56 := s5.trans s6
    have tb := tb.same s6
    refine ⟨_, _, _, _, rfl, .inr ⟨tSame s6 hz5.t, hq, tb _ (by simp [Txt.ts]), fun H7 g7 => ?_⟩⟩
    have s7 := same_tab (tb _ (by simp [Txt.ts])) g7
    refine Gx.gen_walk (walk_zipT (xs := refs zs) (ys := (refs zs).drop 1) rfl) (fun i H' => Same H6 H' ∧ ∀ (j : Nat) u w, j < i → zs[j]? = some u → zs[j + 1]? = some w → u.2.2 ≠ w.2.2) ⟨s7, fun j u w h => absurd h (Nat.not_lt_zero _)⟩ (fun i H' h => ⟨tSame h.1 (tSame s6 hz5.t), tSame h.1 hq⟩) ?_ ?_
    · rintro i x H8 H9 hi ⟨s8, ha⟩ ⟨T1, x1, x2, rfl, hT, rfl, f1, f2⟩
      have f1 : (refs zs)[i]? = some x1 := f1
      have f2 : ((refs zs).drop 1)[i]? = some x2 := f2
      rw [List.getElem?_map] at f1
      rw [List.getElem?_drop, List.getElem?_map, Nat.add_comm] at f2
      obtain ⟨u, g1, rfl⟩ := Option.map_eq_some_iff.mp f1
      obtain ⟨w2, g2, rfl⟩ := Option.map_eq_some_iff.mp f2
      have s9 := same_then (o := HO.tup [V.ref u.1, V.ref w2.1]) s8 hT
      have hz9 := hz.same (s56.trans s9)
      refine ⟨_, _, rfl, tHere, rfl, _, _, rfl, _, _, rfl, rfl, ⟨rfl, yesI ?_⟩⟩
      refine iteT ?_
      refine ⟨_, rfl, _, _, _, _, rfl, rfl, hz9.p.get g1, at1, _, rfl, _, _, _, _, rfl, rfl, hz9.p.get g2, at1, rfl, _, rfl, ?_⟩
      by_cases q3 : u.2.2 = w2.2.2
      · rw [decide_eq_true (show V.int u.2.2 = V.int w2.2.2 by rw [q3])]
        refine (if_pos rfl).mpr ?_
        have e2 : b = false := by
          cases b with
          | false => rfl
          | true => exact absurd q3 ((hb.mp rfl).2 i u w2 g1 g2)
        have := k _ (s56.trans s9)
        rw [e2] at this
        exact this
      · rw [decide_eq_false (fun z : V.int u.2.2 = V.int w2.2.2 => q3 (by injection z))]
        refine (if_neg (by decide)).mpr ⟨s9, fun j u' w' hj h1 h2 => ?_⟩
        by_cases e : j = i
        · subst e
          rw [g1] at h1
          rw [g2] at h2
          cases h1
          cases h2
          exact q3
        · exact ha j u' w' (by omega) h1 h2
    · rintro H8 ⟨s8, ha⟩
      have e2 : b = true := hb.mpr ⟨by rw [← ht]; exact e, fun i u w h1 h2 => ha i u w (by
        have := (List.getElem?_eq_some_iff.mp h2).1
        rw [List.length_drop, ln]
        omega) h1 h2⟩
      have := k _ (s56.trans s8)
      rw [e2] at this
      exact this

theorem ok_packed_sheet (T : Txt K mg) (TB : TxtB T base w) : FnOk P w K mg base CX0 11 T.a_packed_sheet T.d_packed_sheet ["sheet"] (fun vs H Q _ => ∃ (a : Addr) (rs : List (Addr × List Int)), vs = [.ref a] ∧ ShAt K H a rs ∧ Tbs T.ts H ∧ ∀ (p : Addr) (zs : List Zp) H', Same H H' → SqT K H' p (refs zs) → Pts K H' zs → zs.map (fun z => z.2) = runsOf (rs.flatMap fun r => r.2) → Q (.ref p) H') := by
  refine T.F_packed_sheet.ok sc_packed_sheet (fun vs H Q E h => ?_) (fun cdv A outer s H vs Q E hr h => ?_)
  · obtain ⟨a, rs, rfl, ha, tb, k⟩ := h
    rfl
  · obtain ⟨a, rs, rfl, ha, tb, k⟩ := h
    refine ⟨_, (pss_cons (ps_expr (pe_call (ok_need T TB) (hr.mono (by omega)) rfl T.m_need T.F_need.kp T.b_need .nil (passes_call takes0 (fun _ _ _ _ h => h)) (pa_cons (pe_call (ok_is_sheet T TB) (hr.mono (by omega)) rfl T.m_is_sheet T.F_is_sheet.kp T.b_is_sheet .nil pass0 (pa_cons (pv 0) pa_nil)) (pa_cons pe_str pa_nil))))
      (pss_cons (ps_set (i := 1) sc_packed_sheet.nd rfl (Or.inl rfl) (pe_lst pa_nil))
      (pss_cons (ps_for PassesOwn.never rfl (pi_list (pe_lc2 (own := [("row", 3), ("one", 4)]) (g := (gName 3)) (g1 := (gName 4)) (vs1 := [4]) (wi1 := (iTup K (tVar 3))) (tt := tYes) (tt1 := tYes) rfl sc_packed_sheet.nd (pi_tup (pv 0)) (blkOk_by (own := [("row", 3), ("one", 4)]) (N := N_packed_sheet) (sc := defScope s_packed_sheet) (by decide +kernel)) (by decide) (fun _ _ _ _ _ => (pg_name (i := 3) sc_packed_sheet.nd rfl (Or.inl rfl))) (fun _ _ _ _ _ => pts_nil) (fun _ _ _ _ _ => (pi_tup (pv 3))) (fun _ _ _ _ _ => (pg_name (i := 4) sc_packed_sheet.nd rfl (Or.inl rfl))) (fun _ _ _ _ _ => pts_nil) (fun _ _ _ _ _ => (pv 4)))) (pg_name (i := 2) sc_packed_sheet.nd rfl (Or.inl rfl))
        (pss_one (ps_if (PW.pt (pw_and (pt_truth (pv 1) (by intro _; rfl)) (pw_and1 (pt_cmpR op_eq (pe_ix (r := rIxT K) ix_tup (pe_ix (r := rIxL K) ix_list (pv 1) (pe_un un_neg pe_int) (fun _ _ => rfl)) pe_int (fun _ _ => rfl)) (pv 2) (nomark _)))))
          (pss_one (ps_asg (pe_tup (pa_cons (pe_op op_add (pe_ix (r := rIxT K) ix_tup (pe_ix (r := rIxL K) ix_list (pv 1) (pe_un un_neg pe_int) (fun _ _ => rfl)) pe_int (fun _ _ => rfl)) pe_int) (pa_cons (pv 2) pa_nil))) (pg_sub (pv 1) (pe_un un_neg pe_int) set_list)))
          (pss_one (ps_expr (pe_bm PySem.F.plainAttrs_list PySem.F.slot_list_append PySem.F.type_list_append mt_append (pv 1) (pa_cons (pe_tup (pa_cons pe_int (pa_cons (pv 2) pa_nil))) pa_nil)))))))
      (pss_one (ps_ret (pe_callTy call_tuple_of (by rfl) T.n_tuple (by decide +kernel) (pa_cons (pv 1) pa_nil))))))), ?_⟩
    refine ⟨_, rfl, _, _, rfl, ha.sv, tb, fun H1 s1 => ⟨_, _, rfl, fun _ => ?_, fun z => by cases z⟩⟩
    refine ⟨small rfl, fun D hD => ?_⟩
    have sD := same_new (o := HO.lst []) hD
    have ha1 := ha.same (s1.trans sD)
    have hD0 : (upd H1 D (HO.lst [])) D = some (.lst []) := upd_same
    generalize upd H1 D (HO.lst []) = Hd at sD ha1 hD0 ⊢
    refine ⟨_, rfl, _, rfl, ⟨_, ha1.t⟩, fun C hC => ?_⟩
    have nCD : C ≠ D := fun z => by rw [z, hD0] at hC; cases hC
    refine walk_out (walk_tup (xs := rs.map fun r => V.ref r.1)) (fun i H' => ∃ cs : List Int, Same Hd H' ∧ H' C = some (.lst (cs.map V.int)) ∧ cs = (rs.take i).flatMap (fun r => r.2) ∧ cs.length = 16 * i) ⟨[], same_new hC, upd_same, rfl, rfl⟩ (fun i H' _ h => ?_) ?_ ?_
    · obtain ⟨_, s2, _⟩ := h
      exact tSame s2 ha1.t
    · rintro i x H2 H3 hi ⟨cs, s2, hC2, hcs, hl⟩ ⟨rfl, hx⟩
      rw [List.getElem?_map] at hx
      obtain ⟨r, g1, rfl⟩ := Option.map_eq_some_iff.mp hx
      have hrow := ha1.ok r (List.mem_of_getElem? g1)
      have hi : i < 16 := by rw [List.length_map, ha.len] at hi; exact hi
      refine ⟨rfl, yesI ?_⟩
      refine iteT ?_
      refine ⟨_, rfl, _, rfl, ⟨_, tSame s2 hrow.t⟩, ?_⟩
      refine walk_out (walk_tup (xs := r.2.map V.int)) (fun j H' => ∃ ds : List Int, Same Hd H' ∧ H' C = some (.lst (ds.map V.int)) ∧ ds = cs ++ r.2.take j ∧ ds.length = 16 * i + j) ⟨cs, s2, hC2, by simp, hl⟩ (fun j H' _ h => ?_) ?_ ?_
      · obtain ⟨_, s3, _⟩ := h
        exact tSame s3 hrow.t
      · rintro j x H4 H5 hj ⟨ds, s4, hC4, hds, hl4⟩ ⟨rfl, hx⟩
        rw [List.getElem?_map] at hx
        obtain ⟨c, g2, rfl⟩ := Option.map_eq_some_iff.mp hx
        have hj : j < 16 := by rw [List.length_map, hrow.len] at hj; exact hj
        refine ⟨rfl, yesI ?_⟩
        refine iteT ?_
        refine ⟨_, rfl, _, hC4, by rw [List.length_map, hl4]; exact line_of (by omega), ds ++ [c], s4.put hC, by rw [upd_same]; simp, ?_, by rw [List.length_append, hl4]; rfl⟩
        rw [List.take_succ, g2, hds]
        simp
      · rintro H4 ⟨ds, s4, hC4, hds, hl4⟩
        rw [List.length_map, hrow.len] at hl4
        rw [List.length_map, List.take_length] at hds
        refine ⟨ds, s4, hC4, ?_, by omega⟩
        rw [List.take_succ, g1, List.flatMap_append, hds, hcs]
        simp
    rintro H2 ⟨cs, s2, hC2, hcs, hl⟩
    rw [List.length_map, List.take_length] at hcs
    rw [List.length_map, ha.len] at hl
    subst hcs
    have hD2 := s2.get hD0
    refine ⟨C, rfl, ⟨_, SqL.of hC2⟩, for_it (walk_list (xs := (rs.flatMap fun r => r.2).map V.int)) (fun i σ H' => ∃ o2, σ = [some (.ref a), some (.ref D), o2, none, none] ∧ Acc K H2 D ((rs.flatMap fun r => r.2).take i) H') ⟨none, rfl, [], But.refl, hD2, .nil, rfl⟩ (fun i σ H' _ h => ?_) ?_ ?_⟩
    · obtain ⟨_, _, zs, hB, _⟩ := h
      exact SqL.of (hB.get nCD hC2)
    · rintro i x σ H3 Hx hi ⟨o2, rfl, zs, hB, hDx, hP, hm⟩ ⟨rfl, hx⟩
      rw [List.getElem?_map] at hx
      obtain ⟨c, g1, rfl⟩ := Option.map_eq_some_iff.mp hx
      rw [List.length_map] at hi
      have ht : ((rs.flatMap fun r => r.2).take i).length ≤ 256 := by rw [List.length_take]; omega
      have nx : (rs.flatMap fun r => r.2).take (i + 1) = (rs.flatMap fun r => r.2).take i ++ [c] := by rw [List.take_succ, g1]; rfl
      rw [nx]
      generalize (rs.flatMap fun r => r.2).take i = done at hm ht
      have zl := Acc.len hm
      rcases List.eq_nil_or_concat zs with rfl | ⟨ts, z, rfl⟩
      · refine ⟨_, rfl, false, .inl ⟨_, SqL.of hDx, rfl⟩, iteF (iteF ?_)⟩
        refine ⟨_, rfl, tyL hDx, _, rfl, small rfl, fun r hr => ⟨_, _, _, rfl, rfl, rOver hr hDx, line_of (by simp), ?_⟩⟩
        exact ⟨_, rfl, .add hB hDx hP hm hr rfl⟩
      rw [List.concat_eq_append] at hDx hP hm zl
      have hlast : atI (refs (ts ++ [z])) (-1) = some (V.ref z.1) := by rw [show refs (ts ++ [z]) = refs ts ++ [V.ref z.1] from List.map_append]; exact atI_last _ _
      have hz := hP z (by simp)
      refine ⟨_, rfl, true, .inl ⟨_, SqL.of hDx, by rw [show refs (ts ++ [z]) = refs ts ++ [V.ref z.1] from List.map_append]; cases refs ts <;> rfl⟩, iteT ?_⟩
      refine ⟨_, rfl, _, rfl, _, _, _, _, rfl, rfl, SqL.of hDx, hlast, _, _, _, _, rfl, rfl, hz, at1, _, rfl, rfl, _, rfl, ifD (fun e => ?_) (fun e => ?_)⟩
      · have e : z.2.2 = c := by injection e
        refine ⟨_, rfl, _, rfl, _, _, _, _, rfl, rfl, SqL.of hDx, hlast, _, _, _, _, rfl, rfl, hz, at0, _, _, rfl, rfl, _, rfl, small rfl, fun r hr => ?_⟩
        refine ⟨_, rfl, _, rfl, _, _, _, ts.length, rfl, rfl, rOver hr hDx, by rw [List.length_map, List.length_append]; exact ix_last, ?_⟩
        subst e
        exact ⟨_, rfl, .more hB hDx hP hm hr⟩
      · refine ⟨_, rfl, tyL hDx, _, rfl, small rfl, fun r hr => ⟨_, _, _, rfl, rfl, rOver hr hDx, line_of (by rw [List.length_map]; omega), ?_⟩⟩
        exact ⟨_, rfl, (.add hB hDx hP hm hr (by rw [show (ts ++ [z]).map (fun z => z.2) = ts.map (fun z => z.2) ++ [(z.2.1, z.2.2)] from List.map_append, push_snoc, if_neg (fun q => e (by rw [q]))]))⟩
    · rintro σ H3 ⟨o2, rfl, zs, hB, hD3, hP, hm⟩
      rw [List.length_map, List.take_length] at hm
      have sm : Same H H3 := (s1.trans (sD.trans s2)).own (s1.free hD) hB
      exact ⟨_, rfl, _, _, rfl, .inl ⟨SqL.of hD3, fun p hp => k p zs _ (same_then sm hp) tHere (hP.over hp) hm⟩⟩

theorem ok_unpacked_sheet (T : Txt K mg) (TB : TxtB T base w) : FnOk P w K mg base (L2.CX P w) 8 T.a_unpacked_sheet T.d_unpacked_sheet ["packed"] (fun vs H Q E => ∃ x b, vs = [x] ∧ PkV K H x b ∧ Tbs T.ts H ∧ (b = false → ∀ H', Same H H' → Rz T.C_BadValue (.str "packed") H' E) ∧ (b = true → ∃ (a : Addr) (zs : List Zp), x = .ref a ∧ RnAt K H a zs ∧ tot zs = 256 ∧ zs.length ≤ 300 ∧ ∀ (p : Addr) (rows : List (Addr × List Int)) H', Same H H' → SqT K H' p (rows.map fun r => V.ref r.1) → (∀ r ∈ rows, SqT K H' r.1 (r.2.map V.int)) → rows.map (fun r => r.2) = (List.range 16).map (fun i => ((spread (zs.map fun z => z.2)).drop (16 * i)).take 16) → Q (.ref p) H')) := by
  refine T.F_unpacked_sheet.okX sc_unpacked_sheet (fun vs H Q E h => ?_) (fun cdv A outer s H vs Q E hr h => ?_)
  · obtain ⟨x, b, rfl, hx, tb, r, k⟩ := h
    rfl
  · obtain ⟨x, b, rfl, hx, tb, r, k⟩ := h
    refine ⟨_, (pss_cons (ps_expr (pe_call (ok_need T TB) (hr.mono (by omega)) rfl T.m_need T.F_need.kp T.b_need .nil (passes_call (takes_of rfl rfl rfl rfl) (fun _ _ _ _ h => h)) (pa_cons (pe_call (ok_is_packed T TB) (hr.mono (by omega)) rfl T.m_is_packed T.F_is_packed.kp T.b_is_packed .nil pass0 (pa_cons (pv 0) pa_nil)) (pa_cons pe_str pa_nil))))
      (pss_cons (ps_set (i := 1) sc_unpacked_sheet.nd rfl (Or.inr rfl) (pe_lc2 (own := [("count", 2), ("colour", 3), ("_", 4)]) (g := (gTup K 2 (gCons (gName 2) (gCons (gName 3) gNil)))) (g1 := (gName 4)) (vs1 := [4]) (wi1 := (iRng1 (tCons (tVar 2) tNil))) (tt := tYes) (tt1 := tYes) rfl sc_unpacked_sheet.nd (pi_tup (pv 0)) (blkOk_by (own := [("count", 2), ("colour", 3), ("_", 4)]) (N := N_unpacked_sheet) (sc := defScope s_unpacked_sheet) (by decide +kernel)) (by decide) (fun _ _ _ _ _ => (pg_tup (by rfl) (pgs_cons (pg_name (i := 2) sc_unpacked_sheet.nd rfl (Or.inl rfl)) (pgs_cons (pg_name (i := 3) sc_unpacked_sheet.nd rfl (Or.inl rfl)) pgs_nil)))) (fun _ _ _ _ _ => pts_nil) (fun _ _ _ _ _ => (pi_range1 rfl T.n_range (pa_cons (pv 2) pa_nil))) (fun _ _ _ _ _ => (pg_name (i := 4) sc_unpacked_sheet.nd rfl (Or.inl rfl))) (fun _ _ _ _ _ => pts_nil) (fun _ _ _ _ _ => (pv 3))))
      (pss_one (ps_ret (pe_callTy call_tuple_of (by rfl) T.n_tuple (by decide +kernel) (pa_cons (pe_lc (own := [("k", 5)]) (g := gName 5) (tt := tYes) rfl sc_unpacked_sheet.nd (pi_range3 rfl T.n_range (pa_cons pe_int (pa_cons (pe_callB call_len (by rfl) T.n_len (by decide +kernel) (pa_cons (pv 1) pa_nil)) (pa_cons (pe_gI T.c_SIDE) pa_nil)))) (blkOk_by (own := [("k", 5)]) (N := N_unpacked_sheet) (sc := defScope s_unpacked_sheet) (by decide +kernel)) (fun _ _ _ _ _ => pg_name (i := 5) sc_unpacked_sheet.nd rfl (Or.inl rfl)) (fun _ _ _ _ _ => pts_nil) (fun _ _ _ _ _ => (pe_callTy (call_tuple_ofK (K := K) rfl) (by rfl) T.n_tuple (by decide +kernel) (pa_cons (pe_slice (sl_listK (K := K) rfl) (pv 1) (po_some (pv 5)) (po_some (pe_op op_add (pv 5) (pe_gI T.c_SIDE)))) pa_nil)))) pa_nil)))))), ?_⟩
    refine ⟨_, rfl, _, _, rfl, hx, tb, fun H1 s1 => ⟨_, _, rfl, fun e => ?_, fun e => r e H1 s1⟩⟩
    obtain ⟨a, zs, rfl, hz, ht, hl, k⟩ := k e
    have hz1 := hz.same s1
    have nn : ∀ z ∈ zs, 0 ≤ z.2.1 := fun z h => by have := (hz.ok z h).1.1; omega
    dsimp only
    refine ⟨_, rfl, _, rfl, ⟨_, hz1.t⟩, fun C hC => ?_⟩
    refine walk_out (walk_tup (xs := refs zs)) (fun i H' => ∃ cs : List Int, Same H1 H' ∧ H' C = some (.lst (cs.map V.int)) ∧ cs = spread ((zs.take i).map fun z => z.2) ∧ (cs.length : Int) = tot (zs.take i)) ⟨[], same_new hC, upd_same, rfl, rfl⟩ (fun i H' _ h => ?_) ?_ ?_
    · obtain ⟨_, s2, _⟩ := h
      exact tSame s2 hz1.t
    · rintro i x H2 H3 hi ⟨cs, s2, hC2, hcs, hl2⟩ ⟨rfl, hx⟩
      rw [List.getElem?_map] at hx
      obtain ⟨z, g1, rfl⟩ := Option.map_eq_some_iff.mp hx
      have hm := List.mem_of_getElem? g1
      obtain ⟨⟨c0, c1⟩, d0, d1⟩ := hz.ok z hm
      have le := tot_take nn (i + 1)
      rw [take_snoc g1, tot_app, ht, show tot [z] = z.2.1 by unfold tot; simp] at le
      refine ⟨_, _, rfl, tSame s2 (hz1.p z hm), rfl, _, _, rfl, _, _, rfl, rfl, ⟨rfl, yesI ?_⟩⟩
      refine iteT ?_
      refine ⟨_, rfl, _, rfl, by omega, by omega, ?_⟩
      refine walk_out (walk_range (lo := 0) (n := z.2.1.toNat)) (fun j H' => ∃ ds : List Int, Same H1 H' ∧ H' C = some (.lst (ds.map V.int)) ∧ ds = cs ++ List.replicate j z.2.2 ∧ ds.length = cs.length + j) ⟨cs, s2, hC2, by simp, rfl⟩ (fun j H' _ h => trivial) ?_ ?_
      · rintro j x H4 H5 hj ⟨ds, s4, hC4, hds, hl4⟩ ⟨rfl, rfl⟩
        refine ⟨rfl, yesI ?_⟩
        refine iteT ?_
        refine ⟨_, rfl, _, hC4, by rw [List.length_map]; exact line_of (by omega), ds ++ [z.2.2], s4.put hC, by rw [upd_same]; simp, by rw [hds, List.append_assoc, List.replicate_succ'], by rw [List.length_append, hl4]; rfl⟩
      · rintro H4 ⟨ds, s4, hC4, hds, hl4⟩
        refine ⟨ds, s4, hC4, by rw [take_snoc g1, spread_snoc, ← hcs]; exact hds, ?_⟩
        rw [take_snoc g1, tot_app, show tot [z] = z.2.1 by unfold tot; simp]
        omega
    rintro H2 ⟨cs, s2, hC2, hcs, hl2⟩
    have ln : (refs zs).length = zs.length := List.length_map _
    rw [ln, List.take_length] at hcs hl2
    rw [ht] at hl2
    have hl2 : cs.length = 256 := by omega
    rw [← hcs] at k
    clear hcs
    refine ⟨_, rfl, _, _, rfl, .inl ⟨_, SqL.of hC2, rfl⟩, _, _, _, 16, rfl, by rw [List.length_map, hl2]; exact ⟨by decide, by decide, by decide, by decide⟩, fun D hD => ?_⟩
    refine walk_out (walk_rangeC (lo := 0) (c := 16) (n := 16)) (fun i H' => ∃ rows : List (Addr × List Int), Same H2 H' ∧ H' D = some (.lst (rows.map fun r => V.ref r.1)) ∧ (∀ r ∈ rows, SqT K H' r.1 (r.2.map V.int)) ∧ rows.map (fun r => r.2) = (List.range i).map (fun i => (cs.drop (16 * i)).take 16)) ⟨[], same_new hD, upd_same, (fun r h => by cases h), rfl⟩ (fun i H' _ h => trivial) ?_ ?_
    · rintro i x H3 H4 hi ⟨rows, s3, hD3, hr3, hm3⟩ ⟨rfl, rfl⟩
      refine ⟨rfl, yesI ?_⟩
      refine iteT ?_
      have rl : rows.length = i := by
        have := congrArg List.length hm3
        simpa using this
      have cut : cutV (cs.map V.int) (some (0 + (i : Int) * 16)) (some (0 + (i : Int) * 16 + 16)) = ((cs.drop (16 * i)).take 16).map V.int := by
        rw [show (0 + (i : Int) * 16) = ((16 * i : Nat) : Int) by omega, show (((16 * i : Nat) : Int) + 16) = ((16 * i + 16 : Nat) : Int) by omega, cut_mid (by rw [List.length_map, hl2]; omega), List.map_take, List.map_drop]
      refine ⟨_, rfl, _, rfl, _, rfl, _, rfl, _, _, rfl, rfl, _, rfl, _, _, rfl, SqL.of (s3.get hC2), fun q hq => ?_⟩
      rw [cut]
      refine ⟨_, _, rfl, .inl ⟨lHere, fun p hp => ?_⟩⟩
      have e := (same_new (o := HO.lst (((cs.drop (16 * i)).take 16).map V.int)) hq).trans (same_new (o := HO.tup (((cs.drop (16 * i)).take 16).map V.int)) hp)
      have hD4 := e.get hD3
      refine ⟨_, hD4, by rw [List.length_map, rl]; exact line_of (by omega), rows ++ [(p, (cs.drop (16 * i)).take 16)], (s3.trans e).put hD, by rw [upd_same, List.map_append]; rfl, fun r h => ?_, by rw [List.map_append, hm3, List.range_succ, List.map_append]; rfl⟩
      rcases List.mem_append.mp h with h | h
      · exact tAt ⟨_, hD4⟩ (tSame e (hr3 r h))
      · rw [List.mem_singleton] at h
        subst h
        exact tAt ⟨_, hD4⟩ tHere
    · rintro H3 ⟨rows, s3, hD3, hr3, hm3⟩
      exact ⟨_, _, rfl, .inl ⟨SqL.of hD3, fun p hp => k p rows _ (same_then (s1.trans (s2.trans s3)) hp) tHere (fun r h => tOver hp (hr3 r h)) hm3⟩⟩

theorem ok__law_stream (T : Txt K mg) (TB : TxtB T base w) : FnOk P w K mg base CX0 1 T.a__law_stream T.d__law_stream ["script"] (fun vs H Q _ => ∃ (a : Addr) (ns : List Int), vs = [.ref a] ∧ SqL K H a (ns.map V.int) ∧ ∀ H' s b, Same H H' → H s = none → Strm H' s b → Q (.ref s) H') := by
  refine T.F__law_stream.ok sc__law_stream (fun vs H Q E h => ?_) (fun cdv A outer s H vs Q E hr h => ?_)
  · obtain ⟨a, ns, rfl, hS, k⟩ := h
    rfl
  · obtain ⟨a, ns, rfl, hS, k⟩ := h
    refine ⟨_, (pss_one (ps_ret (pe_lst (pa_cons (pe_callTy call_list_of (by rfl) T.n_list (by decide +kernel) (pa_cons (pv 0) pa_nil)) (pa_cons pe_int (pa_cons pe_int pa_nil)))))), ?_⟩
    refine ⟨_, rfl, _, _, rfl, .inl hS, fun b hb => ⟨small rfl, fun s hs => ?_⟩⟩
    have hs' := hs
    have nb : s ≠ b := fun e => by rw [e, upd_same] at hs'; cases hs'
    rw [upd_ne nb] at hs'
    exact k _ s b (same_then (same_new hb) hs) hs' ⟨ns, 0, 0, by rw [upd_ne nb.symm, upd_same], upd_same, by decide, by decide⟩

theorem ok__law_next (T : Txt K mg) (TB : TxtB T base w) : FnOk P w K mg base CX0 1 T.a__law_next T.d__law_next ["stream", "many"] (fun vs H Q _ => ∃ (s : Addr) (m : Int) (b : Addr), vs = [.ref s, .int m] ∧ 0 < m ∧ m < 2 ^ 200 ∧ Strm H s b ∧ ∀ (d : Int) H', 0 ≤ d → d < m → Strm H' s b → But s H H' → Q (.int d) H') := by
  refine T.F__law_next.ok sc__law_next (fun vs H Q E h => ?_) (fun cdv A outer s H vs Q E hr h => ?_)
  · obtain ⟨s, m, b, rfl, m0, m1, S, k⟩ := h
    rfl
  · obtain ⟨s, m, b, rfl, m0, m1, S, k⟩ := h
    refine ⟨_, (C8.pss_cut (ps_if (pt_cmpR op_eq (pe_ix (r := rIxL K) ix_list (pv 0) pe_int (fun _ _ => rfl)) pe_int (nomark _))
        (pss_cons (ps_set (i := 2) sc__law_next.nd rfl (Or.inl rfl) (pe_ix (r := rIxL K) ix_list (pv 0) pe_int (fun _ _ => rfl)))
        (pss_cons (ps_set (i := 3) sc__law_next.nd rfl (Or.inl rfl) (pe_op op_add pe_int (pv 2)))
        (C8.pss_cut (ps_if (pt_cmpR op_lt (pv 2) (pe_callB call_len (by rfl) T.n_len (by decide +kernel) (pa_cons (pe_ix (r := rIxL K) ix_list (pv 0) pe_int (fun _ _ => rfl)) pa_nil)) (nomark _))
          (pss_one (ps_set (i := 3) sc__law_next.nd rfl (Or.inl rfl) (pe_callB call_abs (by rfl) T.n_abs (by decide +kernel) (pa_cons (pe_ix (r := rIxL K) ix_list (pe_ix (r := rIxL K) ix_list (pv 0) pe_int (fun _ _ => rfl)) (pv 2) (fun _ _ => rfl)) pa_nil))))
          pss_nil)
        (C8.pss_cut (ps_if (pt_cmpR op_lt (pv 3) (pe_op op_pow pe_int pe_int) (nomark _))
          (pss_cons (ps_set (i := 3) sc__law_next.nd rfl (Or.inl rfl) (pe_op op_modN (pe_callTy call_int1 (by rfl) T.n_int (by decide +kernel) (pa_cons (pe_op op_add (pe_op op_add (pe_op op_mul (pv 3) pe_int) (pe_op op_mul (pv 2) pe_int)) pe_int) pa_nil)) pe_int))
          (pss_one (ps_set (i := 3) sc__law_next.nd rfl (Or.inl rfl) (pe_op op_add (pe_op op_mul (pe_op op_modN (pe_callTy call_int1 (by rfl) T.n_int (by decide +kernel) (pa_cons (pe_op op_add (pe_op op_mul (pv 3) pe_int) pe_int) pa_nil)) pe_int) pe_int) (pv 3)))))
          pss_nil)
        (pss_cons (ps_asg (pv 3) (pg_sub (pv 0) pe_int set_list))
        (pss_one (ps_asg (pe_op op_add (pv 2) pe_int) (pg_sub (pv 0) pe_int set_list))))))))
        pss_nil)
      (pss_cons (ps_set (i := 4) sc__law_next.nd rfl (Or.inl rfl) (pe_op op_modN (pe_callTy call_int1 (by rfl) T.n_int (by decide +kernel) (pa_cons (pe_ix (r := rIxL K) ix_list (pv 0) pe_int (fun _ _ => rfl)) pa_nil)) (pv 1)))
      (pss_cons (ps_asg (pe_op op_fdivW (pe_ix (r := rIxL K) ix_list (pv 0) pe_int (fun _ _ => rfl)) (pv 1)) (pg_sub (pv 0) pe_int set_list))
      (pss_one (ps_ret (pv 4)))))), ?_⟩
    obtain ⟨ns, c, kk, hb, hs, c0, k0⟩ := S
    have nbs : b ≠ s := Strm.ne hb hs
    refine ⟨fun σ' H' => ∃ (c kk : Int) (o1 o2 : Option V), σ' = [some (.ref s), some (.int m), o1, o2, none] ∧ H' b = some (.lst (ns.map V.int)) ∧ H' s = some (.lst [.ref b, .int c, .int kk]) ∧ 0 ≤ c ∧ 0 ≤ kk ∧ But s H H', ?_, ?_⟩
    rotate_left
    · rintro σ' H1 ⟨c, kk, o1, o2, rfl, hb, hs, c0, k0, hB⟩
      refine ⟨_, rfl, _, _, _, _, rfl, rfl, SqL.of hs, at1, .inl ⟨_, rfl, _, rfl, _, _, rfl, rfl, by omega, ?_⟩⟩
      refine ⟨_, rfl, _, _, _, _, rfl, rfl, SqL.of hs, at1, _, rfl, _, _, rfl, rfl, wide_div (b := 200) m0 (by omega) (by decide) (by decide), _, rfl, _, _, _, 1, rfl, rfl, hs, rfl, ?_⟩
      refine ⟨_, rfl, ?_⟩
      exact k _ _ (fmod_ge m0) (fmod_lt m0) ⟨ns, c / m, kk, by rw [upd_ne nbs]; exact hb, upd_same, div_ge c0 m0, k0⟩ hB.then_at
    refine ⟨_, rfl, _, _, _, _, rfl, rfl, SqL.of hs, at1, rfl, _, rfl, ?_⟩
    refine ifD (fun e => ?_) (fun e => ⟨c, kk, none, none, rfl, hb, hs, c0, k0, But.refl⟩)
    refine ⟨_, rfl, _, _, _, _, rfl, rfl, SqL.of hs, at2, _, rfl, _, _, rfl, rfl, ?_⟩
    -- if k < len(stream[0])
    have mid : ∀ (cell : Int) (t u : TS) (D : Ends) (σ : St) (H1 : Hp), t { D with nx := fun σ' H' => ∃ cell : Int, σ' = [some (.ref s), some (.int m), some (.int kk), some (.int cell), none] ∧ H' = H ∧ 0 ≤ cell } σ H1 → (∀ cell : Int, 0 ≤ cell → u D [some (.ref s), some (.int m), some (.int kk), some (.int cell), none] H) → C8.tCut t u D σ H1 := by
      intro _ t u D σ H1 h1 h2
      exact ⟨_, h1, fun σ' H' ⟨cell, e1, e2, e3⟩ => by rw [e1, e2]; exact h2 cell e3⟩
    refine mid 0 _ _ _ _ _ ?_ fun cell p0 => mid 0 _ _ _ _ _ ?_ fun cell p0 => ?_
    · refine ⟨_, rfl, _, rfl, _, _, _, _, rfl, rfl, SqL.of hs, at0, _, _, rfl, .inl ⟨_, SqL.of hb, rfl⟩, _, _, rfl, rfl, _, rfl, ?_⟩
      refine ifD (fun e => ?_) (fun e => ⟨_, rfl, rfl, by omega⟩)
      have hk : kk.toNat < ns.length := by rw [List.length_map] at e; omega
      refine ⟨_, rfl, _, _, _, _, rfl, rfl, SqL.of hs, at0, _, rfl, _, _, kk, _, rfl, rfl, SqL.of hb, at_of (j := kk.toNat) (v := V.int ns[kk.toNat]) (by omega) (by rw [List.getElem?_map, List.getElem?_eq_getElem hk]; rfl), _, rfl, ?_⟩
      exact ⟨_, rfl, rfl, by split <;> omega⟩
    · refine ⟨_, rfl, _, _, rfl, rfl, ⟨by decide, by decide, by decide⟩, _, _, rfl, rfl, _, rfl, ?_⟩
      refine ifD (fun e => ?_) (fun e => ⟨_, rfl, rfl, p0⟩)
      refine ⟨_, rfl, _, _, rfl, rfl, .inr ⟨by decide, by decide⟩, _, rfl, _, _, rfl, rfl, .inr ⟨by decide, by decide⟩, _, _, rfl, rfl, _, _, rfl, rfl, .inl ⟨_, rfl, _, _, rfl, rfl, show (2147483647 : Int) ≠ 0 by decide, ?_⟩⟩
      have q0 := fmod_ge (a := cell * 48271 + kk * 69621 + 11) (m := 2147483647) (by decide)
      refine ⟨_, rfl, _, _, rfl, rfl, .inr ⟨by decide, by decide⟩, _, _, rfl, rfl, .inl ⟨_, rfl, _, _, rfl, rfl, show (2147483647 : Int) ≠ 0 by decide, _, _, rfl, rfl, .inr ⟨by decide, by decide⟩, _, rfl, _, _, rfl, rfl, ?_⟩⟩
      have q1 := fmod_ge (a := (cell * 48271 + kk * 69621 + 11).fmod 2147483647 * 16807 + 13) (m := 2147483647) (by decide)
      exact ⟨_, rfl, rfl, by omega⟩
    refine ⟨_, rfl, _, rfl, _, _, _, 1, rfl, rfl, hs, rfl, ?_⟩
    refine ⟨_, rfl, _, _, rfl, rfl, _, rfl, _, _, _, 2, rfl, rfl, upd_same, rfl, ?_⟩
    exact ⟨cell, kk + 1, _, _, rfl, by rw [upd_ne nbs, upd_ne nbs]; exact hb, upd_same, p0, by omega, But.at.then_at⟩

theorem ok__law_is_integer (T : Txt K mg) (TB : TxtB T base w) : FnOk P w K mg base CX0 1 T.a__law_is_integer T.d__law_is_integer ["actual"] (fun vs H Q _ => ∃ x n, vs = [x] ∧ Ty K H x n ∧ Q (.bl (n == "int")) H) := by
  refine T.F__law_is_integer.ok sc__law_is_integer (fun vs H Q E h => ?_) (fun cdv A outer s H vs Q E hr h => ?_)
  · obtain ⟨x, n, rfl, hx, k⟩ := h
    rfl
  · obtain ⟨x, n, rfl, hx, k⟩ := h
    refine ⟨_, (pss_one (ps_ret (pe_and (pe_callB call_isi (by rfl) T.n_isinstance (by decide +kernel) (pa_cons (pv 0) (pa_cons (pe_bltn (v := .ty "int") (by rfl) T.n_int (by decide +kernel) rfl) pa_nil))) (pe_one (pe_not (pe_callB call_isi (by rfl) T.n_isinstance (by decide +kernel) (pa_cons (pv 0) (pa_cons (pe_bltn (v := .ty "bool") (by rfl) T.n_bool (by decide +kernel) rfl) pa_nil)))))))), ?_⟩
    refine ⟨_, rfl, ⟨_, _, _, _, _, rfl, .ty _, (hx).x, isaN (Ty.six hx) (by simp [My.six]), ⟨_, rfl, ?_⟩⟩⟩
    cases hx
    all_goals first | (refine ifTr (by decide) ?_) | (refine ifFa (by decide) ?_; exact k)
    · exact ⟨_, rfl, ⟨_, _, _, _, _, rfl, .ty _, ((Ty.bl _)).x, isaN (by simp [My.six]) (by simp [My.six]), ⟨_, rfl, k⟩⟩⟩
    · exact ⟨_, rfl, ⟨_, _, _, _, _, rfl, .ty _, ((Ty.int _)).x, isaN (by simp [My.six]) (by simp [My.six]), ⟨_, rfl, k⟩⟩⟩

theorem ok__law_sheet (T : Txt K mg) (TB : TxtB T base w) : FnOk P w K mg base CX0 2 T.a__law_sheet T.d__law_sheet ["stream"] (fun vs H Q _ => ∃ (s b : Addr), vs = [.ref s] ∧ Strm H s b ∧ ∀ (a : Addr) (rs : List (Addr × List Int)) H', ShAt K H' a rs → Strm H' s b → But s H H' → Q (.ref a) H') := by
  refine T.F__law_sheet.ok sc__law_sheet (fun vs H Q E h => ?_) (fun cdv A outer s H vs Q E hr h => ?_)
  · obtain ⟨s, b, rfl, S, k⟩ := h
    rfl
  · obtain ⟨s, b, rfl, S, k⟩ := h
    refine ⟨_, (pss_cons (ps_set (i := 1) sc__law_sheet.nd rfl (Or.inr rfl) (pe_lc (own := [("k", 3)]) (g := gName 3) (tt := tYes) rfl sc__law_sheet.nd (pi_range1 rfl T.n_range (pa_cons (pe_op op_add pe_int (pe_call (ok__law_next T TB) (hr.mono (by omega)) rfl T.m__law_next T.F__law_next.kp T.b__law_next .nil pass0 (pa_cons (pv 0) (pa_cons pe_int pa_nil)))) pa_nil)) (blkOk_by (own := [("k", 3)]) (N := N__law_sheet) (sc := defScope s__law_sheet) (by decide +kernel)) (fun _ _ _ _ _ => pg_name (i := 3) sc__law_sheet.nd rfl (Or.inl rfl)) (fun _ _ _ _ _ => pts_nil) (fun _ _ _ _ _ => (pe_call (ok__law_next T TB) (hr.mono (by omega)) rfl T.m__law_next T.F__law_next.kp T.b__law_next .nil pass0 (pa_cons (pv 0) (pa_cons pe_int pa_nil))))))
      (pss_cons (ps_set (i := 2) sc__law_sheet.nd rfl (Or.inl rfl) (pe_lst pa_nil))
      (pss_cons (ps_for PassesOwn.never rfl (pi_range1 rfl T.n_range (pa_cons pe_int pa_nil)) (pg_name (i := 3) sc__law_sheet.nd rfl (Or.inl rfl))
        (pss_cons (ps_set (i := 4) sc__law_sheet.nd rfl (Or.inl rfl) (pe_call (ok__law_next T TB) (hr.mono (by omega)) rfl T.m__law_next T.F__law_next.kp T.b__law_next .nil pass0 (pa_cons (pv 0) (pa_cons pe_int pa_nil))))
        (pss_one (ps_if (PW.pt (pw_and (pt_truth (pv 2) (by intro _; rfl)) (pw_and1 (pt_cmpR op_eq (pv 4) pe_int (nomark _)))))
          (pss_one (ps_expr (pe_bm PySem.F.plainAttrs_list PySem.F.slot_list_append PySem.F.type_list_append mt_append (pv 2) (pa_cons (pe_ix (r := rIxL K) ix_list (pv 2) (pe_un un_neg pe_int) (fun _ _ => rfl)) pa_nil))))
          (pss_one (ps_if (pt_cmpR op_eq (pv 4) pe_int (nomark _))
            (pss_one (ps_expr (pe_bm PySem.F.plainAttrs_list PySem.F.slot_list_append PySem.F.type_list_append mt_append (pv 2) (pa_cons (pe_op op_repT (pe_tup (pa_cons (pe_ix (r := rIxL K) ix_list (pv 1) (pe_call (ok__law_next T TB) (hr.mono (by omega)) rfl T.m__law_next T.F__law_next.kp T.b__law_next .nil pass0 (pa_cons (pv 0) (pa_cons (pe_callB (call_lenK (K := K) rfl) (by rfl) T.n_len (by decide +kernel) (pa_cons (pv 1) pa_nil)) pa_nil))) (fun _ _ => rfl)) pa_nil)) pe_int) pa_nil))))
            (pss_one (ps_expr (pe_bm PySem.F.plainAttrs_list PySem.F.slot_list_append PySem.F.type_list_append mt_append (pv 2) (pa_cons (pe_callTy call_tuple_of (by rfl) T.n_tuple (by decide +kernel) (pa_cons (pe_lc (own := [("i", 5)]) (g := gName 5) (tt := tYes) rfl sc__law_sheet.nd (pi_range1 rfl T.n_range (pa_cons pe_int pa_nil)) (blkOk_by (own := [("i", 5)]) (N := N__law_sheet) (sc := defScope s__law_sheet) (by decide +kernel)) (fun _ _ _ _ _ => pg_name (i := 5) sc__law_sheet.nd rfl (Or.inl rfl)) (fun _ _ _ _ _ => pts_nil) (fun _ _ _ _ _ => (pe_ix (r := rIxL K) ix_list (pv 1) (pe_call (ok__law_next T TB) (hr.mono (by omega)) rfl T.m__law_next T.F__law_next.kp T.b__law_next .nil pass0 (pa_cons (pv 0) (pa_cons (pe_callB (call_lenK (K := K) rfl) (by rfl) T.n_len (by decide +kernel) (pa_cons (pv 1) pa_nil)) pa_nil))) (fun _ _ => rfl)))) pa_nil)) pa_nil))))))))))
      (pss_one (ps_ret (pe_callTy call_tuple_of (by rfl) T.n_tuple (by decide +kernel) (pa_cons (pv 2) pa_nil))))))), ?_⟩
    refine ⟨_, rfl, _, _, _, rfl, by decide, by decide, S, fun d H1 d0 d1 S1 e1 => ⟨_, _, rfl, rfl, _, rfl, by omega, by omega, fun D hD => ?_⟩⟩
    have nDs : D ≠ s := S1.new1 hD
    have nDb : D ≠ b := S1.new2 hD
    refine walk_out (walk_range (lo := 0) (n := (1 + d).toNat)) (fun i H' => ∃ cs : List Int, Strm H' s b ∧ But s H H' ∧ H' D = some (.lst (cs.map V.int)) ∧ cs.length = i ∧ ∀ c ∈ cs, 0 ≤ c ∧ c ≤ 63) ⟨[], S1.over hD, e1.then_new hD, upd_same, rfl, (fun c h => by cases h)⟩ (fun i H' _ h => trivial) ?_ ?_
    · rintro i x H2 H3 hi ⟨cs, S3, e3, hD3, hl, hc⟩ ⟨rfl, rfl⟩
      refine ⟨rfl, yesI ?_⟩
      refine iteT ?_
      refine ⟨_, rfl, _, _, _, rfl, by decide, by decide, S3, fun c H5 c0 c1 S5 e5 => ?_⟩
      have hD5 := e5.get nDs hD3
      refine ⟨_, hD5, by rw [List.length_map, hl]; exact line_of (by omega), cs ++ [c], S5.at nDs nDb, ?_, by rw [upd_same]; simp, by rw [List.length_append, hl]; rfl, fun c' h => ?_⟩
      · exact fun b' u q e => ((e3.trans e5) b' u q e).over (fun z => by
          have := (e1 b' u q e).ne_none
          rw [z] at this
          exact this hD)
      · rcases List.mem_append.mp h with h | h
        · exact hc c' h
        · rw [List.mem_singleton] at h; subst h; omega
    rintro H2 ⟨cs, S2, e2, hD2, hl, hc⟩
    have lpos : 1 ≤ cs.length := by omega
    have lmax : cs.length ≤ 4 := by omega
    refine ⟨small rfl, fun R hR => ?_⟩
    have nRs : R ≠ s := S2.new1 hR
    have nRb : R ≠ b := S2.new2 hR
    have nDR : D ≠ R := fun z => by rw [z, hR] at hD2; cases hD2
    refine ⟨_, rfl, by decide, by decide, for_range (lo := 0) (n := 16) (fun i σ H' => ∃ (rs : List (Addr × List Int)) (o3 o4 : Option V), σ = [some (.ref s), some (.ref D), some (.ref R), o3, o4, none] ∧ Strm H' s b ∧ But s H2 H' ∧ H' D = some (.lst (cs.map V.int)) ∧ H' R = some (.lst (rs.map fun r => V.ref r.1)) ∧ rs.length = i ∧ ∀ r ∈ rs, RowAt K H' r.1 r.2)
      ⟨[], none, none, rfl, S2.over hR, But.new hR, rOver hR hD2, upd_same, rfl, (fun r h => by cases h)⟩ ?_ ?_⟩
    rotate_left
    · rintro σ H3 ⟨rs, o3, o4, rfl, S3, e3, hD3, hR3, hl3, hr3⟩
      exact ⟨_, rfl, _, _, rfl, .inl ⟨SqL.of hR3, fun p hp => k p rs _ ⟨tHere, hl3, fun r h => (hr3 r h).same (same_new hp)⟩ (S3.over hp) ((e2.trans e3).then_new hp)⟩⟩
    rintro i σ H3 hi ⟨rs, o3, o4, rfl, S3, e3, hD3, hR3, hl3, hr3⟩
    refine ⟨_, rfl, _, _, _, rfl, by decide, by decide, S3, fun pick H4 p0 p1 S4 e4 => ?_⟩
    have hD4 := e4.get nDs hD3
    have hR4 := e4.get nRs hR3
    have hr4 := fun r h => (hr3 r h).but e4 S3
    have e34 := e3.trans e4
    have fin : ∀ (Hx : Hp) (r : Addr) (ds : List Int), Strm Hx s b → But s H4 Hx → RowAt K Hx r ds → (∃ acc, Hx R = some (.lst acc) ∧ acc = rs.map fun r => V.ref r.1) → Hx D = some (.lst (cs.map V.int)) → ∃ (rs' : List (Addr × List Int)) (o3 o4 : Option V), [some (V.ref s), some (V.ref D), some (V.ref R), some (V.int (0 + i)), some (V.int pick), none] = [some (V.ref s), some (V.ref D), some (V.ref R), o3, o4, none] ∧ Strm (upd Hx R (.lst ((rs.map fun r => V.ref r.1) ++ [V.ref r]))) s b ∧ But s H2 (upd Hx R (.lst ((rs.map fun r => V.ref r.1) ++ [V.ref r]))) ∧ (upd Hx R (.lst ((rs.map fun r => V.ref r.1) ++ [V.ref r]))) D = some (.lst (cs.map V.int)) ∧ (upd Hx R (.lst ((rs.map fun r => V.ref r.1) ++ [V.ref r]))) R = some (.lst (rs'.map fun r => V.ref r.1)) ∧ rs'.length = i + 1 ∧ ∀ r' ∈ rs', RowAt K (upd Hx R (.lst ((rs.map fun r => V.ref r.1) ++ [V.ref r]))) r'.1 r'.2 := by
      intro Hx r ds Sx ex hx ⟨acc, hRx, hacc⟩ hDx
      subst hacc
      refine ⟨rs ++ [(r, ds)], _, _, rfl, Sx.at nRs nRb, (e34.trans ex).put hR, by rw [upd_ne nDR]; exact hDx, by rw [upd_same, List.map_append]; rfl, by rw [List.length_append, hl3]; rfl, fun r' h => ?_⟩
      rcases List.mem_append.mp h with h | h
      · exact ((hr4 r' h).but ex S4).put ⟨_, hRx⟩
      · rw [List.mem_singleton] at h
        subst h
        exact hx.put ⟨_, hRx⟩
    have ll : (rs.map fun r => V.ref r.1).length < sizeLine := by rw [List.length_map, hl3]; exact line_of (by omega)
    have colour : ∀ {j : Int}, 0 ≤ j → j < (cs.map V.int).length → ∃ c : Int, atI (cs.map V.int) j = some (.int c) ∧ 0 ≤ c ∧ c ≤ 63 := fun {j} h0 h1 => by
      obtain ⟨v, hv, hm⟩ := atAny h0 h1
      obtain ⟨c, hcm, rfl⟩ := List.mem_map.mp hm
      exact ⟨c, hv, hc c hcm⟩
    have lp : 0 < (((cs.map V.int).length : Nat) : Int) ∧ (((cs.map V.int).length : Nat) : Int) < 2 ^ 200 := by rw [List.length_map]; omega
    refine ⟨_, rfl, !(rs.map fun r => V.ref r.1).isEmpty, .inl ⟨_, SqL.of hR4, rfl⟩, ?_⟩
    refine iteR ?_ (fun _ r => iteF r) (fun e r => ?_)
    rotate_left
    · refine ⟨_, rfl, rfl, _, rfl, ifD (fun e0 => ?_) (fun _ => r)⟩
      obtain ⟨ts, z, ez⟩ : ∃ ts z, rs = ts ++ [z] := ⟨rs.dropLast, rs.getLast (fun q => by rw [q] at e; cases e), (List.dropLast_concat_getLast _).symm⟩
      have hlast : atI (rs.map fun r => V.ref r.1) (-1) = some (V.ref z.1) := by rw [ez, List.map_append]; exact atI_last _ _
      refine ⟨_, rfl, tyL hR4, _, rfl, _, rfl, _, _, _, _, rfl, rfl, SqL.of hR4, hlast, _, _, _, rfl, rfl, hR4, ll, ?_⟩
      exact fin H4 z.1 z.2 S4 But.refl (hr4 z (by rw [ez]; simp)) ⟨_, hR4, rfl⟩ hD4
    refine ⟨_, rfl, rfl, _, rfl, ifD (fun e0 => ?_) (fun e0 => ?_)⟩
    · refine ⟨_, rfl, tyL hR4, _, rfl, _, rfl, _, rfl, _, _, rfl, .inl ⟨_, SqL.of hD4, rfl⟩, _, _, _, rfl, lp.1, lp.2, S4, fun j H5 j0 j1 S5 e5 => ?_⟩
      obtain ⟨c, hv, c0, c1⟩ := colour j0 j1
      have hD5 := e5.get nDs hD4
      have hR5 := e5.get nRs hR4
      refine ⟨_, _, _, _, rfl, rfl, SqL.of hD5, hv, small rfl, fun q hq => ⟨_, _, _, rfl, rfl, tHere, by simp, by decide, by decide, by simp, fun p hp => ?_⟩⟩
      have e6 := (same_new (o := HO.tup [V.int c]) hq).trans (same_new (o := HO.tup (List.replicate (Int.toNat 16) [V.int c]).flatten) hp)
      refine ⟨_, _, _, rfl, rfl, e6.get hR5, ll, ?_⟩
      exact fin _ p (List.replicate 16 c) (S5.same e6) (e5.then_same e6) ⟨tHere, by simp, fun x hx => by rw [List.eq_of_mem_replicate hx]; exact ⟨c0, c1⟩⟩ ⟨_, e6.get hR5, rfl⟩ (e6.get hD5)
    refine ⟨_, rfl, tyL hR4, _, rfl, by decide, by decide, fun C hC => ?_⟩
    have nCs : C ≠ s := S4.new1 hC
    have nCb : C ≠ b := S4.new2 hC
    refine walk_out (walk_range (lo := 0) (n := 16)) (fun m H' => ∃ ds : List Int, Strm H' s b ∧ But s H4 H' ∧ H' C = some (.lst (ds.map V.int)) ∧ ds.length = m ∧ ∀ c ∈ ds, 0 ≤ c ∧ c ≤ 63) ⟨[], S4.over hC, But.new hC, upd_same, rfl, (fun c h => by cases h)⟩ (fun i H' _ h => trivial) ?_ ?_
    · rintro m x H5 H6 hm ⟨ds, S5, e5, hC5, hl5, hd5⟩ ⟨rfl, rfl⟩
      have hD5 := e5.get nDs hD4
      refine ⟨rfl, yesI ?_⟩
      refine iteT ?_
      refine ⟨_, rfl, _, rfl, _, rfl, _, _, rfl, .inl ⟨_, SqL.of hD5, rfl⟩, _, _, _, rfl, lp.1, lp.2, S5, fun j H7 j0 j1 S7 e7 => ?_⟩
      obtain ⟨c, hv, c0, c1⟩ := colour j0 j1
      have hC7 := e7.get nCs hC5
      refine ⟨_, _, _, _, rfl, rfl, SqL.of (e7.get nDs hD5), hv, _, hC7, by rw [List.length_map, hl5]; exact line_of (by omega), ds ++ [c], S7.at nCs nCb, (e5.trans e7).put hC, by rw [upd_same]; simp, by rw [List.length_append, hl5]; rfl, fun c' h => ?_⟩
      rcases List.mem_append.mp h with h | h
      · exact hd5 c' h
      · rw [List.mem_singleton] at h; subst h; exact ⟨c0, c1⟩
    rintro H5 ⟨ds, S5, e5, hC5, hl5, hd5⟩
    have hD5 := e5.get nDs hD4
    have hR5 := e5.get nRs hR4
    refine ⟨_, _, rfl, .inl ⟨SqL.of hC5, fun p hp => ?_⟩⟩
    refine ⟨_, _, _, rfl, rfl, rOver hp hR5, ll, ?_⟩
    exact fin _ p ds (S5.over hp) (e5.then_new hp) ⟨tHere, hl5, hd5⟩ ⟨_, rOver hp hR5, rfl⟩ (rOver hp hD5)

theorem ok__law_runs (T : Txt K mg) (TB : TxtB T base w) : FnOk P w K mg base CX0 1 T.a__law_runs T.d__law_runs ["sheet"] (fun vs H Q _ => ∃ (a : Addr) (rs : List (Addr × List Int)), vs = [.ref a] ∧ ShAt K H a rs ∧ ∀ (p : Addr) (zs : List Zp) H', Same H H' → SqT K H' p (refs zs) → Pts K H' zs → zs.map (fun z => z.2) = runsOf (rs.flatMap fun r => r.2) → Q (.ref p) H') := by
  refine T.F__law_runs.ok sc__law_runs (fun vs H Q E h => ?_) (fun cdv A outer s H vs Q E hr h => ?_)
  · obtain ⟨a, rs, rfl, ha, k⟩ := h
    rfl
  · obtain ⟨a, rs, rfl, ha, k⟩ := h
    refine ⟨_, (pss_cons (ps_set (i := 1) sc__law_runs.nd rfl (Or.inl rfl) (pe_lst pa_nil))
      (pss_cons (ps_for PassesOwn.never rfl (pi_tup (pv 0)) (pg_name (i := 2) sc__law_runs.nd rfl (Or.inl rfl))
        (pss_one (ps_for PassesOwn.never rfl (pi_tup (pv 2)) (pg_name (i := 3) sc__law_runs.nd rfl (Or.inl rfl))
          (pss_one (ps_if (PW.pt (pw_and (pt_truth (pv 1) (by intro _; rfl)) (pw_and1 (pt_cmpR op_eq (pe_ix (r := rIxT K) ix_tup (pe_ix (r := rIxL K) ix_list (pv 1) (pe_un un_neg pe_int) (fun _ _ => rfl)) pe_int (fun _ _ => rfl)) (pv 3) (nomark _)))))
            (pss_one (ps_asg (pe_tup (pa_cons (pe_op op_add (pe_ix (r := rIxT K) ix_tup (pe_ix (r := rIxL K) ix_list (pv 1) (pe_un un_neg pe_int) (fun _ _ => rfl)) pe_int (fun _ _ => rfl)) pe_int) (pa_cons (pv 3) pa_nil))) (pg_sub (pv 1) (pe_un un_neg pe_int) set_list)))
            (pss_one (ps_expr (pe_bm PySem.F.plainAttrs_list PySem.F.slot_list_append PySem.F.type_list_append mt_append (pv 1) (pa_cons (pe_tup (pa_cons pe_int (pa_cons (pv 3) pa_nil))) pa_nil)))))))))
      (pss_one (ps_ret (pe_callTy call_tuple_of (by rfl) T.n_tuple (by decide +kernel) (pa_cons (pv 1) pa_nil)))))), ?_⟩
    refine ⟨small rfl, fun D hD => ?_⟩
    have sD := same_new (o := HO.lst []) hD
    have ha1 := ha.same sD
    have hD0 : (upd H D (HO.lst [])) D = some (.lst []) := upd_same
    generalize upd H D (HO.lst []) = Hd at sD ha1 hD0 ⊢
    refine ⟨_, rfl, _, rfl, ⟨_, ha1.t⟩, for_it (walk_tup (xs := rs.map fun r => V.ref r.1)) (fun i σ H' => ∃ o2 o3, σ = [some (.ref a), some (.ref D), o2, o3] ∧ Acc K Hd D ((rs.take i).flatMap fun r => r.2) H') ⟨none, none, rfl, [], But.refl, hD0, .nil, rfl⟩ (fun i σ H' _ h => ?_) ?_ ?_⟩
    · obtain ⟨_, _, _, zs, hB, _⟩ := h
      exact tBut hB ⟨_, hD0⟩ ha1.t
    · rintro i x σ H2 H3 hi ⟨o2, o3, rfl, acc⟩ ⟨rfl, hx⟩
      rw [List.getElem?_map] at hx
      obtain ⟨r, g1, rfl⟩ := Option.map_eq_some_iff.mp hx
      have hrow := ha1.ok r (List.mem_of_getElem? g1)
      have hi : i < 16 := by rw [List.length_map, ha.len] at hi; exact hi
      have l16 : ((rs.take i).flatMap fun r => r.2).length ≤ 16 * i := by
        have : ∀ (ls : List (Addr × List Int)), (∀ r ∈ ls, r.2.length = 16) → (ls.flatMap fun r => r.2).length = 16 * ls.length := by
          intro ls
          induction ls with
          | nil => intro _; rfl
          | cons l ls ih =>
            intro h
            rw [List.flatMap_cons, List.length_append, h l (by simp), ih fun r hr => h r (by simp [hr]), List.length_cons]
            omega
        rw [this _ fun r hr => (ha1.ok r (List.mem_of_mem_take hr)).len, List.length_take]
        omega
      have nx : (rs.take (i + 1)).flatMap (fun r => r.2) = ((rs.take i).flatMap fun r => r.2) ++ r.2 := by
        rw [List.take_succ, g1, List.flatMap_append]
        simp
      rw [nx]
      generalize ((rs.take i).flatMap fun r => r.2) = pre at acc l16
      obtain ⟨zs0, hB0, hD2, hP0, hm0⟩ := acc
      refine ⟨_, rfl, _, rfl, ⟨_, tBut hB0 ⟨_, hD0⟩ hrow.t⟩, for_it (walk_tup (xs := r.2.map V.int)) (fun j σ H' => ∃ o3, σ = [some (.ref a), some (.ref D), some (.ref r.1), o3] ∧ Acc K Hd D (pre ++ r.2.take j) H') ⟨o3, rfl, zs0, hB0, hD2, hP0, by rw [hm0]; simp⟩ (fun j σ H' _ h => ?_) ?_ ?_⟩
      · obtain ⟨_, _, zs, hB, _⟩ := h
        exact tBut hB ⟨_, hD0⟩ hrow.t
      · rintro j x σ H4 Hx hj ⟨o3, rfl, zs, hB, hDx, hP, hm⟩ ⟨rfl, hx⟩
        rw [List.getElem?_map] at hx
        obtain ⟨c, g2, rfl⟩ := Option.map_eq_some_iff.mp hx
        rw [List.length_map, hrow.len] at hj
        have ht : (pre ++ r.2.take j).length ≤ 256 := by rw [List.length_append, List.length_take]; omega
        have nx2 : pre ++ r.2.take (j + 1) = (pre ++ r.2.take j) ++ [c] := by rw [List.take_succ, g2, List.append_assoc]; rfl
        rw [nx2]
        generalize pre ++ r.2.take j = done at hm ht
        have zl := Acc.len hm
        rcases List.eq_nil_or_concat zs with rfl | ⟨ts, z, rfl⟩
        · refine ⟨_, rfl, false, .inl ⟨_, SqL.of hDx, rfl⟩, iteF (iteF ?_)⟩
          refine ⟨_, rfl, tyL hDx, _, rfl, small rfl, fun r hr => ⟨_, _, _, rfl, rfl, rOver hr hDx, line_of (by simp), ?_⟩⟩
          exact ⟨_, rfl, .add hB hDx hP hm hr rfl⟩
        rw [List.concat_eq_append] at hDx hP hm zl
        have hlast : atI (refs (ts ++ [z])) (-1) = some (V.ref z.1) := by rw [show refs (ts ++ [z]) = refs ts ++ [V.ref z.1] from List.map_append]; exact atI_last _ _
        have hz := hP z (by simp)
        refine ⟨_, rfl, true, .inl ⟨_, SqL.of hDx, by rw [show refs (ts ++ [z]) = refs ts ++ [V.ref z.1] from List.map_append]; cases refs ts <;> rfl⟩, iteT ?_⟩
        refine ⟨_, rfl, _, rfl, _, _, _, _, rfl, rfl, SqL.of hDx, hlast, _, _, _, _, rfl, rfl, hz, at1, _, rfl, rfl, _, rfl, ifD (fun e => ?_) (fun e => ?_)⟩
        · have e : z.2.2 = c := by injection e
          refine ⟨_, rfl, _, rfl, _, _, _, _, rfl, rfl, SqL.of hDx, hlast, _, _, _, _, rfl, rfl, hz, at0, _, _, rfl, rfl, _, rfl, small rfl, fun r hr => ?_⟩
          refine ⟨_, rfl, _, rfl, _, _, _, ts.length, rfl, rfl, rOver hr hDx, by rw [List.length_map, List.length_append]; exact ix_last, ?_⟩
          subst e
          exact ⟨_, rfl, .more hB hDx hP hm hr⟩
        · refine ⟨_, rfl, tyL hDx, _, rfl, small rfl, fun r hr => ⟨_, _, _, rfl, rfl, rOver hr hDx, line_of (by rw [List.length_map]; omega), ?_⟩⟩
          exact ⟨_, rfl, (.add hB hDx hP hm hr (by rw [show (ts ++ [z]).map (fun z => z.2) = ts.map (fun z => z.2) ++ [(z.2.1, z.2.2)] from List.map_append, push_snoc, if_neg (fun q => e (by rw [q]))]))⟩
      · rintro σ H4 ⟨o3, rfl, acc⟩
        rw [List.length_map, List.take_length] at acc
        exact ⟨_, _, rfl, acc⟩
    · rintro σ H3 ⟨o2, o3, rfl, zs, hB, hD3, hP, hm⟩
      rw [List.length_map, List.take_length] at hm
      have sm : Same H H3 := sD.own hD hB
      exact ⟨_, rfl, _, _, rfl, .inl ⟨SqL.of hD3, fun p hp => k p zs _ (same_then sm hp) tHere (hP.over hp) hm⟩⟩

theorem ok__law_spoilt (T : Txt K mg) (TB : TxtB T base w) : FnOk P w K mg base CX0 2 T.a__law_spoilt T.d__law_spoilt ["stream", "packed"] (fun vs H Q _ => ∃ (s b a : Addr) (zs : List Zp), vs = [.ref s, .ref a] ∧ Strm H s b ∧ RnAt K H a zs ∧ PkOk zs ∧ 1 ≤ zs.length ∧ zs.length ≤ 256 ∧ ∀ v H', PkV K H' v false → Strm H' s b → But s H H' → Q v H') := by
  refine T.F__law_spoilt.ok sc__law_spoilt (fun vs H Q E h => ?_) (fun cdv A outer s H vs Q E hr h => ?_)
  · obtain ⟨s, b, a, zs, rfl, S, ha, hok, l1, l2, k⟩ := h
    rfl
  · obtain ⟨s, b, a, zs, rfl, S, ha, hok, l1, l2, k⟩ := h
    refine ⟨_, (pss_cons (ps_set (i := 2) sc__law_spoilt.nd rfl (Or.inl rfl) (pe_call (ok__law_next T TB) (hr.mono (by omega)) rfl T.m__law_next T.F__law_next.kp T.b__law_next .nil pass0 (pa_cons (pv 0) (pa_cons (pe_callB call_len (by rfl) T.n_len (by decide +kernel) (pa_cons (pv 1) pa_nil)) pa_nil))))
      (pss_cons (ps_asg (pe_ix (r := rIxT K) ix_tup (pv 1) (pv 2) (fun _ _ => rfl)) (pg_tup (by rfl) (pgs_cons (pg_name (i := 3) sc__law_spoilt.nd rfl (Or.inl rfl)) (pgs_cons (pg_name (i := 4) sc__law_spoilt.nd rfl (Or.inl rfl)) pgs_nil))))
      (pss_cons (ps_set (i := 5) sc__law_spoilt.nd rfl (Or.inl rfl) (pe_lst (pa_cons (pe_tup (pa_cons (pe_tup (pa_cons pe_int (pa_cons (pv 4) pa_nil))) pa_nil)) (pa_cons (pe_tup (pa_cons (pe_tup (pa_cons (pe_op op_add (pv 3) pe_int) (pa_cons (pv 4) pa_nil))) pa_nil)) (pa_cons (pe_tup (pa_cons (pe_tup (pa_cons (pv 3) (pa_cons pe_int pa_nil))) pa_nil)) (pa_cons (pe_tup (pa_cons (pe_tup (pa_cons (pv 3) (pa_cons (pv 4) pa_nil))) (pa_cons (pe_tup (pa_cons pe_int (pa_cons (pv 4) pa_nil))) pa_nil))) (pa_cons (pe_tup (pa_cons (pe_tup (pa_cons (pv 3) pa_nil)) pa_nil)) (pa_cons (pe_tup (pa_cons (pe_tup (pa_cons (pv 3) (pa_cons pe_bl pa_nil))) pa_nil)) (pa_cons (pe_tup (pa_cons (pe_lst (pa_cons (pv 3) (pa_cons (pv 4) pa_nil))) pa_nil)) (pa_cons (pe_tup pa_nil) pa_nil))))))))))
      (pss_cons (ps_set (i := 6) sc__law_spoilt.nd rfl (Or.inl rfl) (pe_call (ok__law_next T TB) (hr.mono (by omega)) rfl T.m__law_next T.F__law_next.kp T.b__law_next .nil pass0 (pa_cons (pv 0) (pa_cons (pe_op op_add (pe_callB call_len (by rfl) T.n_len (by decide +kernel) (pa_cons (pv 5) pa_nil)) pe_int) pa_nil))))
      (pss_cons (ps_if (pt_cmpR op_eq (pv 6) (pe_callB call_len (by rfl) T.n_len (by decide +kernel) (pa_cons (pv 5) pa_nil)) (nomark _))
        (pss_one (ps_ret (pe_callTy call_list_of (by rfl) T.n_list (by decide +kernel) (pa_cons (pv 1) pa_nil))))
        pss_nil)
      (pss_one (ps_ret (pe_op op_catA (pe_op op_catA (pe_slice sl_tupA (pv 1) po_none (po_some (pv 2))) (pe_ix (r := rIxL K) ix_list (pv 5) (pv 6) (fun _ _ => rfl))) (pe_slice sl_tupA (pv 1) (po_some (pe_op op_add (pv 2) pe_int)) po_none))))))))), ?_⟩
    refine ⟨_, rfl, _, rfl, _, _, rfl, .inr ⟨_, ha.t, rfl⟩, _, _, _, rfl, by rw [List.length_map]; omega, by rw [List.length_map]; omega, S, fun d H1 d0 d1 S1 e1 => ?_⟩
    rw [List.length_map] at d1
    obtain ⟨n, rfl⟩ : ∃ n : Nat, d = n := ⟨d.toNat, by omega⟩
    have ha1 := ha.but e1 S
    obtain ⟨z, hn⟩ : ∃ z, zs[n]? = some z := ⟨_, List.getElem?_eq_getElem (by omega)⟩
    have rn : (refs zs)[n]? = some (.ref z.1) := by rw [List.getElem?_map, hn]; rfl
    obtain ⟨⟨c0, c1⟩, g0, g1⟩ := ha.ok z (List.mem_of_getElem? hn)
    refine ⟨_, rfl, _, rfl, _, _, _, _, rfl, rfl, ha1.t, atI_nat rn, ?_⟩
    refine ⟨_, _, rfl, ha1.p.get hn, rfl, _, _, rfl, _, _, rfl, rfl, ?_⟩
    have B0 : BL (Spoil K z.2.1) H H1 s b [] := ⟨S1, e1, fun _ h => by cases h⟩
    refine ⟨_, rfl, small rfl, fun i0 u0 => ⟨small rfl, fun q0 w0 => ?_⟩⟩
    have f0 := (same_new (o := HO.tup [.int 0, .int z.2.2]) u0).trans (same_new (o := HO.tup [.ref i0]) w0)
    have B1 := B0.step f0 (spoil_one (B0.S.same f0) (tOver w0 tHere) rfl rfl tHere)
    have one_more : runB [.int (z.2.1 + 1), .int z.2.2] = false ∨ okR (z.1, z.2.1 + 1, z.2.2) := by
      by_cases q : z.2.1 + 1 ≤ 256
      · exact .inr ⟨⟨by show 1 ≤ z.2.1 + 1; omega, q⟩, g0, g1⟩
      · refine .inl ?_
        show (betB 1 256 (.int (z.2.1 + 1)) && _) = false
        rw [betB_no (.inr (by omega)), Bool.false_and]
    refine ⟨_, rfl, _, _, rfl, rfl, _, rfl, small rfl, fun i1 u1 => ⟨small rfl, fun q1 w1 => ?_⟩⟩
    have f1 := (same_new (o := HO.tup [.int (z.2.1 + 1), .int z.2.2]) u1).trans (same_new (o := HO.tup [.ref i1]) w1)
    have B2 := B1.step f1 (by
      rcases one_more with bad | good
      · exact spoil_one (B1.S.same f1) (tOver w1 tHere) rfl bad tHere
      · exact spoil_runs (ys := [(i1, z.2.1 + 1, z.2.2)]) (B1.S.same f1) tHere (Nat.le_succ 1) (.one (tOver w1 tHere)) (fun y hy => by rw [List.mem_singleton.mp hy]; exact good) (by show z.2.1 + 1 + 0 ≠ z.2.1; omega))
    refine ⟨_, rfl, small rfl, fun i2 u2 => ⟨small rfl, fun q2 w2 => ?_⟩⟩
    have f2 := (same_new (o := HO.tup [.int z.2.1, .int 64]) u2).trans (same_new (o := HO.tup [.ref i2]) w2)
    have B3 := B2.step f2 (spoil_one (B2.S.same f2) (tOver w2 tHere) rfl (by show (_ && betB 0 63 (.int 64)) = false; rw [show betB 0 63 (.int 64) = false by decide, Bool.and_false]) tHere)
    refine ⟨_, rfl, _, rfl, small rfl, fun i3 u3 => ⟨_, rfl, small rfl, fun k3 x3 => ⟨small rfl, fun q3 w3 => ?_⟩⟩⟩
    have f3 := ((same_new (o := HO.tup [.int z.2.1, .int z.2.2]) u3).trans (same_new (o := HO.tup [.int 1, .int z.2.2]) x3)).trans (same_new (o := HO.tup [.ref i3, .ref k3]) w3)
    have B4 := B3.step f3 (spoil_runs (ys := [(i3, z.2.1, z.2.2), (k3, 1, z.2.2)]) (B3.S.same f3) tHere (Nat.le_refl 2) (Pts.app (zs := [(i3, z.2.1, z.2.2)]) (.one (tOver w3 (tOver x3 tHere))) (.one (tOver w3 tHere))) (fun y hy => by
      simp only [List.mem_cons, List.not_mem_nil, or_false] at hy
      rcases hy with rfl | rfl
      · exact ⟨⟨c0, c1⟩, g0, g1⟩
      · exact ⟨⟨(by show (1 : Int) ≤ 1; decide), (by show (1 : Int) ≤ 256; decide)⟩, g0, g1⟩) (by show z.2.1 + (1 + 0) ≠ z.2.1; omega))
    refine ⟨_, rfl, small rfl, fun i4 u4 => ⟨small rfl, fun q4 w4 => ?_⟩⟩
    have f4 := (same_new (o := HO.tup [.int z.2.1]) u4).trans (same_new (o := HO.tup [.ref i4]) w4)
    have B5 := B4.step f4 (spoil_one (B4.S.same f4) (tOver w4 tHere) rfl rfl tHere)
    refine ⟨_, rfl, small rfl, fun i5 u5 => ⟨small rfl, fun q5 w5 => ?_⟩⟩
    have f5 := (same_new (o := HO.tup [.int z.2.1, .bl true]) u5).trans (same_new (o := HO.tup [.ref i5]) w5)
    have B6 := B5.step f5 (spoil_one (B5.S.same f5) (tOver w5 tHere) rfl (by show (_ && betB 0 63 (.bl true)) = false; rw [show betB 0 63 (.bl true) = false by decide, Bool.and_false]) tHere)
    refine ⟨_, rfl, _, rfl, small rfl, fun i6 u6 => ⟨small rfl, fun q6 w6 => ?_⟩⟩
    have li6 : i6 ≠ s := B6.S.new1 u6
    have f6 := (same_new (o := HO.lst [.int z.2.1, .int z.2.2]) u6).trans (same_new (o := HO.tup [.ref i6]) w6)
    have B7 := B6.step f6 (fun H' k => ⟨q6, [.ref i6], rfl, tButS k (B6.S.same f6) tHere, .inl ⟨_, rfl, RunV.no (.lst (SqL.of (k.get li6 (rOver w6 upd_same)))) (by decide)⟩⟩)
    refine ⟨small rfl, fun q7 w7 => ?_⟩
    have f7 := same_new (o := HO.tup []) w7
    have B8 := B7.step f7 (spoil_runs (ys := []) (B7.S.same f7) tHere (Nat.zero_le _) .nil (fun y hy => by cases hy) (by show (0 : Int) ≠ z.2.1; omega))
    refine ⟨small rfl, fun L wL => ?_⟩
    refine ⟨_, rfl, _, rfl, _, _, rfl, .inl ⟨_, lHere, rfl⟩, _, _, rfl, rfl, _, _, _, rfl, by show (0 : Int) < ((8 : Nat) : Int) + 1; decide, by show ((8 : Nat) : Int) + 1 < 2 ^ 200; decide, B8.S.over wL, fun pk H9 p0 p1 S9 e9 => ?_⟩
    have p1 : pk < 9 := p1
    have hL := rBut e9 wL B8.S
    have D := (B8.over wL).go e9 S9
    have ha9 := ha.but D.e S
    refine ⟨_, rfl, _, rfl, _, _, rfl, .inl ⟨_, SqL.of hL, rfl⟩, rfl, _, rfl, ?_⟩
    refine ifD (fun x1 => ?_) (fun x1 => ?_)
    · exact ⟨_, rfl, _, _, rfl, .inr ha9.t, fun p hp => k _ _ (.inr ⟨TupV.no (.lst (SqL.of upd_same)) (by decide), rfl⟩) (S9.over hp) (D.e.then_new hp)⟩
    have x1 : pk ≠ 8 := fun q => x1 (by rw [q]; rfl)
    obtain ⟨v2, hv2, hm2⟩ := atAny (xs := [V.ref q0, V.ref q1, V.ref q2, V.ref q3, V.ref q4, V.ref q5, V.ref q6, V.ref q7]) p0 (by show pk < 8; omega)
    obtain ⟨q2, ws, rfl, hq2, hsp⟩ := (D.F v2 hm2).here
    have big : 1000 ≤ sizeLine := by decide
    have l0 := hsp.len
    refine ⟨_, rfl, _, rfl, _, rfl, ?_⟩
    refine slA_of ha9.t fun c G1 s1 hc => ?_
    rw [cut_take, ← List.map_take] at hc
    refine ⟨_, rfl, _, rfl, _, _, _, _, rfl, rfl, SqL.of (s1.get hL), hv2, ?_⟩
    refine catA_of hc (tSame s1 hq2) (by rw [List.length_map, List.length_take]; omega) fun q G2 s2 hq => ?_
    have s12 := s1.trans s2
    refine ⟨_, rfl, _, rfl, _, _, rfl, rfl, _, rfl, ?_⟩
    refine noPart (slA_of (tSame s12 ha9.t) fun c3 G3 s3 hc3 => ?_)
    rw [show ((n : Int) + 1) = ((n + 1 : Nat) : Int) from rfl, cut_drop, ← List.map_drop] at hc3
    refine catA_of (tSame s3 hq) hc3 (by rw [List.length_append, List.length_map, List.length_take, List.length_map, List.length_drop]; omega) fun q4 G4 s4 hq4 => ?_
    have s14 := (s12.trans s3).trans s4
    rw [List.append_assoc] at hq4
    exact k _ _ (spoil_pk (ha9.same s14) hok hn l2 (hsp.same s14) hq4) (S9.same s14) (D.e.then_same s14)

theorem ok__law_refused (T : Txt K mg) (TB : TxtB T base w) : FnOk P w K mg base CX0 9 T.a__law_refused T.d__law_refused ["packed"] (fun vs H Q _ => ∃ x, vs = [x] ∧ PkV K H x false ∧ Tbs T.ts H ∧ ∀ H', Same H H' → Q (.str "packed") H') := by
  refine T.F__law_refused.ok sc__law_refused (fun vs H Q E h => ?_) (fun cdv A outer s H vs Q E hr h => ?_)
  · obtain ⟨x, rfl, hx, tb, k⟩ := h
    rfl
  · obtain ⟨x, rfl, hx, tb, k⟩ := h
    refine ⟨_, (pss_cons (ps_try_as (i := 1) (Wout := fun _ _ _ _ => False) rfl rfl sc__law_refused.nd rfl rfl ⟨rfl, by decide, Or.inl T.bv.gC⟩ takes0
        (fun W pn xe tk _ => (pss_one (ps_expr (pe_callS (ok_unpacked_sheet T TB) (hr.mono (by omega)) rfl T.m_unpacked_sheet T.F_unpacked_sheet.kp T.b_unpacked_sheet (fun σ => passAt tk σ) (by exact (pa_cons (pv 0) pa_nil))))))
        (fun a oe cls d pn hz hf => (pss_one (ps_ret (pe_byBv T.bv hz hf (pv 1))))))
      (pss_one (ps_ret pe_str))), ?_⟩
    refine ⟨_, rfl, _, _, rfl, hx, tb, fun _ H1 s1 d hd => ?_, fun z => by cases z⟩
    refine ⟨true, T.bv.te, fun _ a0 _ => ?_, fun q => Bool.noConfusion q⟩
    exact ⟨_, rfl, rfl, rfl, d, _, rfl, upd_same, k _ (same_then s1 hd)⟩

theorem ok_law (T : Txt K mg) (TB : TxtB T base w) : FnOk P w K mg base CX0 12 T.a_law T.d_law ["script"] (spLawT K T.ts) := by
  refine T.F_law.ok sc_law (fun vs H Q E h => ?_) (fun cdv A outer s H vs Q E hr h => ?_)
  · obtain ⟨w0, ns, rfl, hS, hlen, tb, k⟩ := h
    rfl
  · obtain ⟨w0, ns, rfl, hS, hlen, tb, k⟩ := h
    refine ⟨_, (pss_cons (ps_set (i := 1) sc_law.nd rfl (Or.inl rfl) (pe_call (ok__law_stream T TB) (hr.mono (by omega)) rfl T.m__law_stream T.F__law_stream.kp T.b__law_stream .nil pass0 (pa_cons (pv 0) pa_nil)))
      (pss_cons (ps_set (i := 2) sc_law.nd rfl (Or.inl rfl) (pe_call (ok__law_sheet T TB) (hr.mono (by omega)) rfl T.m__law_sheet T.F__law_sheet.kp T.b__law_sheet .nil pass0 (pa_cons (pv 1) pa_nil)))
      (pss_cons (ps_set (i := 3) sc_law.nd rfl (Or.inl rfl) (pe_call (ok_packed_sheet T TB) (hr.mono (by omega)) rfl T.m_packed_sheet T.F_packed_sheet.kp T.b_packed_sheet .nil pass0 (pa_cons (pv 2) pa_nil)))
      (pss_cons (ps_if (PW.pt (pw_or (pt_not (pt_val (pe_callB call_isi (by rfl) T.n_isinstance (by decide +kernel) (pa_cons (pv 3) (pa_cons (pe_bltn (v := .ty "tuple") (by rfl) T.n_tuple (by decide +kernel) rfl) pa_nil))))) (pw_or (pt_cmpR (op_neD hr.units) (pv 3) (pe_call (ok__law_runs T TB) (hr.mono (by omega)) rfl T.m__law_runs T.F__law_runs.kp T.b__law_runs .nil pass0 (pa_cons (pv 2) pa_nil)) (nomark _)) (pw_or1 (pt_cmpR (op_neD hr.units) (pe_call (ok_unpacked_sheet T TB) (hr.mono (by omega)) rfl T.m_unpacked_sheet T.F_unpacked_sheet.kp T.b_unpacked_sheet .nil (passes_call takes0 (fun _ _ _ _ h => h)) (pa_cons (pv 3) pa_nil)) (pv 2) (nomark _))))))
        (pss_one (ps_ret pe_bl))
        pss_nil)
      (pss_cons (ps_if (pt_not (pt_val (pe_callB (cr_all rfl) (by rfl) T.n_all (by decide +kernel) (pa_cons (pe_lc (own := [("count", 6), ("colour", 7)]) (g := gTup K 2 (gCons (gName 6) (gCons (gName 7) gNil))) (tt := tYes) rfl sc_law.nd (pi_tup (pv 3)) (blkOk_by (own := [("count", 6), ("colour", 7)]) (N := N_law) (sc := defScope s_law) (by decide +kernel)) (fun _ _ _ _ _ => (pg_tup (by rfl) (pgs_cons (pg_name (i := 6) sc_law.nd rfl (Or.inl rfl)) (pgs_cons (pg_name (i := 7) sc_law.nd rfl (Or.inl rfl)) pgs_nil)))) (fun _ _ _ _ _ => pts_nil) (fun _ _ _ _ _ => (pe_and (pe_call (ok__law_is_integer T TB) (hr.mono (by omega)) rfl T.m__law_is_integer T.F__law_is_integer.kp T.b__law_is_integer .nil pass0 (pa_cons (pv 6) pa_nil)) (pe_one (pe_call (ok__law_is_integer T TB) (hr.mono (by omega)) rfl T.m__law_is_integer T.F__law_is_integer.kp T.b__law_is_integer .nil pass0 (pa_cons (pv 7) pa_nil)))))) pa_nil))))
        (pss_one (ps_ret pe_bl))
        pss_nil)
      (pss_cons (ps_if (PW.pt (pw_or (pt_cmpR op_ne (pe_call (ok__law_refused T TB) (hr.mono (by omega)) rfl T.m__law_refused T.F__law_refused.kp T.b__law_refused .nil pass0 (pa_cons (pe_call (ok__law_spoilt T TB) (hr.mono (by omega)) rfl T.m__law_spoilt T.F__law_spoilt.kp T.b__law_spoilt .nil pass0 (pa_cons (pv 1) (pa_cons (pv 3) pa_nil))) pa_nil)) pe_str (nomark _)) (pw_or1 (pt_cmpR op_isnot_bl (pe_call (ok_is_sheet T TB) (hr.mono (by omega)) rfl T.m_is_sheet T.F_is_sheet.kp T.b_is_sheet .nil pass0 (pa_cons (pv 2) pa_nil)) pe_bl (nomark _)))))
        (pss_one (ps_ret pe_bl))
        pss_nil)
      (pss_cons (ps_set (i := 4) sc_law.nd rfl (Or.inl rfl) (pe_call (ok__law_next T TB) (hr.mono (by omega)) rfl T.m__law_next T.F__law_next.kp T.b__law_next .nil pass0 (pa_cons (pv 1) (pa_cons pe_int pa_nil))))
      (pss_cons (ps_set (i := 5) sc_law.nd rfl (Or.inl rfl) (pe_ix (r := rIxL K) ix_list (pe_lst (pa_cons (pe_slice sl_tupA (pe_ix (r := rIxT K) ix_tup (pv 2) (pv 4) (fun _ _ => rfl)) po_none (po_some pe_int)) (pa_cons (pe_op op_catA (pe_ix (r := rIxT K) ix_tup (pv 2) (pv 4) (fun _ _ => rfl)) (pe_tup (pa_cons pe_int pa_nil))) (pa_cons (pe_op op_catA (pe_tup (pa_cons pe_int pa_nil)) (pe_slice sl_tupA (pe_ix (r := rIxT K) ix_tup (pv 2) (pv 4) (fun _ _ => rfl)) (po_some pe_int) po_none)) (pa_cons (pe_op op_catA (pe_tup (pa_cons pe_bl pa_nil)) (pe_slice sl_tupA (pe_ix (r := rIxT K) ix_tup (pv 2) (pv 4) (fun _ _ => rfl)) (po_some pe_int) po_none)) (pa_cons (pe_callTy call_list_of (by rfl) T.n_list (by decide +kernel) (pa_cons (pe_ix (r := rIxT K) ix_tup (pv 2) (pv 4) (fun _ _ => rfl)) pa_nil)) pa_nil)))))) (pe_call (ok__law_next T TB) (hr.mono (by omega)) rfl T.m__law_next T.F__law_next.kp T.b__law_next .nil pass0 (pa_cons (pv 1) (pa_cons pe_int pa_nil))) (fun _ _ => rfl)))
      (pss_cons (ps_if (pt_cmpR op_isnot_bl (pe_call (ok_is_sheet T TB) (hr.mono (by omega)) rfl T.m_is_sheet T.F_is_sheet.kp T.b_is_sheet .nil pass0 (pa_cons (pe_op op_catA (pe_op op_catA (pe_slice sl_tupA (pv 2) po_none (po_some (pv 4))) (pe_tup (pa_cons (pv 5) pa_nil))) (pe_slice sl_tupA (pv 2) (po_some (pe_op op_add (pv 4) pe_int)) po_none)) pa_nil)) pe_bl (nomark _))
        (pss_one (ps_ret pe_bl))
        pss_nil)
      (pss_one (ps_ret (pe_and (pe_cmpR op_is_bl (pe_call (ok_is_sheet T TB) (hr.mono (by omega)) rfl T.m_is_sheet T.F_is_sheet.kp T.b_is_sheet .nil pass0 (pa_cons (pe_slice sl_tupA (pv 2) po_none (po_some pe_int)) pa_nil)) pe_bl (nomark _)) (pe_and (pe_cmpR op_is_bl (pe_call (ok_is_sheet T TB) (hr.mono (by omega)) rfl T.m_is_sheet T.F_is_sheet.kp T.b_is_sheet .nil pass0 (pa_cons (pe_callTy call_list_of (by rfl) T.n_list (by decide +kernel) (pa_cons (pv 2) pa_nil)) pa_nil)) pe_bl (nomark _)) (pe_one (pe_cmpR op_is_bl (pe_call (ok_is_sheet T TB) (hr.mono (by omega)) rfl T.m_is_sheet T.F_is_sheet.kp T.b_is_sheet .nil pass0 (pa_cons (pe_op op_catA (pv 2) (pe_slice sl_tupA (pv 2) po_none (po_some pe_int))) pa_nil)) pe_bl (nomark _)))))))))))))))), ?_⟩
    have fin := k
    refine ⟨_, rfl, _, ns, rfl, hS, fun H1 s b e1 n1 S1 => ?_⟩
    have tb := tb.same e1
    refine ⟨_, rfl, _, _, rfl, S1, fun a rs H2 ha S2 B2 => ?_⟩
    have tb := tb.but B2 S1.lst
    refine ⟨_, rfl, _, _, rfl, ha, tb, fun p zs H3 s3 hp hP hm => ?_⟩
    have tb := tb.same s3
    have ha := ha.same s3
    have S := S2.same s3
    have e16 : ∀ l ∈ rs.map (fun r => r.2), l.length = 16 := fun l h => by
      obtain ⟨r, hr, rfl⟩ := List.mem_map.mp h
      exact (ha.ok r hr).len
    have eflat : (rs.flatMap fun r => r.2) = (rs.map fun r => r.2).flatten := rfl
    have ech := chunks _ e16
    rw [List.length_map, ha.len] at ech
    have el : (rs.flatMap fun r => r.2).length = 256 := by
      have : ∀ (ls : List (Addr × List Int)), (∀ r ∈ ls, r.2.length = 16) → (ls.flatMap fun r => r.2).length = 16 * ls.length := by
        intro ls
        induction ls with
        | nil => intro _; rfl
        | cons l ls ih =>
          intro h
          rw [List.flatMap_cons, List.length_append, h l (by simp), ih fun r hr => h r (by simp [hr]), List.length_cons]
          omega
      rw [this _ fun r hr => (ha.ok r hr).len, ha.len]
    obtain ⟨hok, hpk, l1, l2, hsp⟩ := runs_rn hm el fun c hc => by
      obtain ⟨r, hr, hc⟩ := List.mem_flatMap.mp hc
      exact (ha.ok r hr).ok c hc
    have hz : RnAt K H3 p zs := ⟨hp, hP, hok⟩
    have hx : Ty K H3 (.ref p) "tuple" := .tup hp
    refine ⟨_, rfl, _, _, _, _, _, rfl, .ty _, hx.x, isaN hx.six (by simp [My.six]), _, rfl, ?_⟩
    refine ifFa (by decide) ?_
    refine ⟨_, rfl, _, rfl, _, _, rfl, ha, fun p2 zs2 H4 s4 hp2 hP2 hm2 => ?_⟩
    have hz := hz.same s4
    have dp1 : Dp K H4 (.ref p) (dRuns (zs.map fun z => z.2)) := .tup hz.t (dp_runs hz.p)
    have dp2 : Dp K H4 (.ref p2) (dRuns (zs2.map fun z => z.2)) := .tup hp2 (dp_runs hP2)
    refine ⟨_, _, dp1, dp2, (flat_runs _).shaped, (flat_runs _).shaped, _, rfl, ?_⟩
    rw [hm2, ← hm, (flat_runs _).refl]
    refine iteF ?_
    have tb := tb.same s4
    have ha := ha.same s4
    have S := S.same s4
    refine ⟨_, rfl, _, true, rfl, .good hz (by omega) hpk, tb, (fun z => by cases z), fun _ => ⟨p, zs, rfl, hz, hpk.1, by omega, fun p3 rows H5 s5 hp3 hr3 hm3 => ?_⟩⟩
    have hz := hz.same s5
    have tb := tb.same s5
    have ha := ha.same s5
    have S := S.same s5
    rw [hsp, eflat, ech] at hm3
    have dq1 : Dp K H5 (.ref p3) (dRows (rows.map fun r => r.2)) := .tup hp3 (dp_rows hr3)
    have dq2 : Dp K H5 (.ref a) (dRows (rs.map fun r => r.2)) := .tup ha.t (dp_rows fun r hr => (ha.ok r hr).t)
    refine ⟨_, rfl, _, _, dq1, dq2, (flat_rows _).shaped, (flat_rows _).shaped, _, rfl, ?_⟩
    rw [hm3, (flat_rows _).refl]
    refine iteF ?_
    -- whole numbers
    refine ⟨_, rfl, _, rfl, ⟨_, hz.t⟩, fun D hD => ?_⟩
    refine walk_out (walk_tup (xs := refs zs)) (fun i H' => Same H5 H' ∧ H' D = some (.lst ((List.replicate i true).map V.bl))) ⟨same_new hD, upd_same⟩ (fun i H' _ h => tSame h.1 hz.t) ?_ ?_
    · rintro i x H6 H7 hi ⟨s6, hD6⟩ ⟨rfl, hxi⟩
      rw [List.getElem?_map] at hxi
      obtain ⟨z, g1, rfl⟩ := Option.map_eq_some_iff.mp hxi
      rw [List.length_map] at hi
      refine ⟨_, _, rfl, tSame s6 (hz.p.get g1), rfl, _, _, rfl, _, _, rfl, rfl, ⟨rfl, yesI ?_⟩⟩
      refine iteT ?_
      refine ⟨_, rfl, _, _, rfl, .int _, _, rfl, ifTr rfl ?_⟩
      exact ⟨_, rfl, _, _, rfl, .int _, _, hD6, by rw [List.length_map, List.length_replicate]; exact line_of (by omega), s6.put hD, by rw [upd_same, List.replicate_succ', List.map_append]; rfl⟩
    rintro H6 ⟨s6, hD6⟩
    refine ⟨_, _, rfl, SqL.of hD6, ?_⟩
    rw [show (List.replicate (refs zs).length true).all id = true from by rw [List.all_eq_true]; intro x hx; rw [List.eq_of_mem_replicate hx]; rfl]
    refine ⟨_, rfl, ifFa rfl ?_⟩
    have tb := tb.same s6
    have ha := ha.same s6
    have hz := hz.same s6
    have S := S.same s6
    refine ⟨_, rfl, _, rfl, _, _, _, _, rfl, S, hz, hpk, l1, l2, fun v H7 hv S7 e7 => ⟨_, rfl, hv, tb.but e7 S.lst, fun H8 s8 => ?_⟩⟩
    have ha := (ha.but e7 S).same s8
    have tb := (tb.but e7 S.lst).same s8
    have S := S7.same s8
    refine ⟨rfl, _, rfl, ifFa (by rw [decide_eq_true rfl]; rfl) ?_⟩
    refine ⟨_, rfl, _, _, rfl, ha.sv, tb, fun H9 s9 => ⟨_, _, rfl, rfl, _, rfl, ifFa rfl ?_⟩⟩
    have ha := ha.same s9
    have tb := tb.same s9
    have S := S.same s9
    refine ⟨_, rfl, _, _, _, rfl, by decide, by decide, S, fun d G d0 d1 S' e => ?_⟩
    obtain ⟨n, rfl⟩ : ∃ n : Nat, d = n := ⟨d.toNat, by omega⟩
    have ha := ha.but e S
    have tb := tb.but e S.lst
    have S := S'
    clear S' e
    have lrs := ha.len
    obtain ⟨r, hr⟩ : ∃ r, rs[n]? = some r := ⟨_, List.getElem?_eq_getElem (by omega)⟩
    have rr : (rs.map fun r => V.ref r.1)[n]? = some (.ref r.1) := by rw [List.getElem?_map, hr]; rfl
    have hrow := ha.ok r (List.mem_of_getElem? hr)
    have okr := hrow.ok
    have lrow := hrow.len
    have big : 1000 ≤ sizeLine := by decide
    have no64 : ∀ H, ElV K H (.int 64) false := fun H => ⟨⟨_, .int _⟩, by decide⟩
    have notr : ∀ H, ElV K H (.bl true) false := fun H => ⟨⟨_, .bl _⟩, by decide⟩
    have B0 : BL (fun H v => RowV K H v false) G G s b [] := BL.nil S
    -- too short
    refine ⟨_, rfl, _, rfl, _, _, _, _, rfl, rfl, ha.t, atI_nat rr, _, rfl, ?_⟩
    refine slA_of hrow.t fun q0 G0 e0 j0 => ?_
    rw [show ((15 : Int)) = ((15 : Nat) : Int) from rfl, cut_take, ← List.map_take] at j0
    have B1 := B0.step e0 (fun H' q => TupV.all (tButS q (B0.S.same e0) j0) (by rw [List.length_map, List.length_take]; omega) (els fun c h => okr c (List.mem_of_mem_take h)) (l16n (by rw [List.length_map, List.length_take]; omega)))
    have ha := ha.same e0
    have tb := tb.same e0
    have hrow := hrow.same e0
    -- too long
    refine ⟨_, rfl, _, rfl, _, _, _, _, rfl, rfl, ha.t, atI_nat rr, small rfl, fun p1 w1 => ?_⟩
    refine catA_of (tOver w1 hrow.t) tHere (by rw [List.length_map]; show _ + 1 ≤ _; omega) fun q1 G1 f1 j1 => ?_
    have e1 := (same_new (o := HO.tup [.int 0]) w1).trans f1
    have B2 := B1.step e1 (fun H' q => TupV.all (xs := (r.2 ++ [0]).map V.int) (tButS q (B1.S.same e1) (by rw [List.map_append]; exact j1)) (by rw [List.length_map, List.length_append, lrow]; decide) (els fun c h => by
      rcases List.mem_append.mp h with h | h
      · exact okr c h
      · rw [List.mem_singleton] at h; subst h; decide) (l16n (by rw [List.length_map, List.length_append, lrow]; decide)))
    have ha := ha.same e1
    have tb := tb.same e1
    have hrow := hrow.same e1
    -- a wrong colour
    refine ⟨small rfl, fun p2' w2 => ⟨_, rfl, _, rfl, _, _, _, _, rfl, rfl, tOver w2 ha.t, atI_nat rr, _, rfl, ?_⟩⟩
    refine noPart (slA_of (tOver w2 hrow.t) fun c2 M2 s2' h2 => ?_)
    rw [show ((1 : Int)) = ((1 : Nat) : Int) from rfl, cut_drop, ← List.map_drop] at h2
    refine catA_of (tSame s2' tHere) h2 (by rw [List.length_map, List.length_drop]; show 1 + _ ≤ _; omega) fun q2 G2 f2 j2 => ?_
    have e2 := ((same_new (o := HO.tup [.int 64]) w2).trans s2').trans f2
    have B3 := B2.step e2 (fun H' q => TupV.bad (us := []) (v := .int 64) (ws := (r.2.drop 1).map V.int) (tButS q (B2.S.same e2) j2) (by rw [List.length_map, List.length_drop]; show 0 + _ ≤ _; omega) (fun v h => by cases h) (no64 _) (els fun c h => okr c (List.mem_of_mem_drop h)))
    have ha := ha.same e2
    have tb := tb.same e2
    have hrow := hrow.same e2
    refine ⟨small rfl, fun p3' w3 => ⟨_, rfl, _, rfl, _, _, _, _, rfl, rfl, tOver w3 ha.t, atI_nat rr, _, rfl, ?_⟩⟩
    refine noPart (slA_of (tOver w3 hrow.t) fun c3 M3 s3' h3 => ?_)
    rw [show ((1 : Int)) = ((1 : Nat) : Int) from rfl, cut_drop, ← List.map_drop] at h3
    refine catA_of (tSame s3' tHere) h3 (by rw [List.length_map, List.length_drop]; show 1 + _ ≤ _; omega) fun q3 G3 f3 j3 => ?_
    have e3 := ((same_new (o := HO.tup [.bl true]) w3).trans s3').trans f3
    have B4 := B3.step e3 (fun H' q => TupV.bad (us := []) (v := .bl true) (ws := (r.2.drop 1).map V.int) (tButS q (B3.S.same e3) j3) (by rw [List.length_map, List.length_drop]; show 0 + _ ≤ _; omega) (fun v h => by cases h) (notr _) (els fun c h => okr c (List.mem_of_mem_drop h)))
    have ha := ha.same e3
    have tb := tb.same e3
    have hrow := hrow.same e3
    -- a list
    refine ⟨_, rfl, _, rfl, _, _, _, _, rfl, rfl, ha.t, atI_nat rr, _, _, rfl, .inr hrow.t, fun q4 w4 => ?_⟩
    have n4 : q4 ≠ s := B4.S.new1 w4
    have e4 := same_new (o := HO.lst (r.2.map V.int)) w4
    have B5 := B4.step e4 (fun H' q => TupV.no (.lst (SqL.of (q.get n4 upd_same))) (by decide))
    have ha := ha.same e4
    have tb := tb.same e4
    have hrow := hrow.same e4
    refine ⟨small rfl, fun L wL => ?_⟩
    refine ⟨_, rfl, _, _, _, rfl, by decide, by decide, B5.S.over wL, fun d5 G5 d50 d51 S5' e5 => ?_⟩
    have hL := rBut e5 wL B5.S
    obtain ⟨v, hv', hm'⟩ := atAny (xs := [V.ref q0, V.ref q1, V.ref q2, V.ref q3, V.ref q4]) d50 d51
    have e5' := (But.new (s := s) (o := HO.lst [V.ref q0, V.ref q1, V.ref q2, V.ref q3, V.ref q4]) wL).trans e5
    have hw := ((B5.F v hm').but e5').here
    refine ⟨_, _, _, _, rfl, rfl, SqL.of hL, hv', ?_⟩
    have ha := ha.but e5' B5.S
    have tb := tb.but e5' B5.S.lst
    clear B0 B1 B2 B3 B4 B5
    have okrs := fun r h => ha.ok r h
    -- a sheet with a wrong row
    refine ⟨_, rfl, _, rfl, _, rfl, ?_⟩
    refine slA_of ha.t fun c M1 s1' h1 => ?_
    rw [cut_take, ← List.map_take] at h1
    refine ⟨_, rfl, small rfl, fun t wt => ?_⟩
    refine catA_of (tOver wt h1) tHere (by rw [List.length_map, List.length_take]; show _ + 1 ≤ _; omega) fun q M2' s2'' hq => ?_
    have s12 := (s1'.trans (same_new (o := HO.tup [v]) wt)).trans s2''
    refine ⟨_, rfl, _, rfl, _, _, rfl, rfl, _, rfl, ?_⟩
    refine noPart (slA_of (tSame s12 ha.t) fun c3' M3' s3'' hc3 => ?_)
    rw [show ((n : Int) + 1) = ((n + 1 : Nat) : Int) from rfl, cut_drop, ← List.map_drop] at hc3
    refine catA_of (tSame s3'' hq) hc3 (by rw [List.length_append, List.length_map, List.length_take, List.length_map, List.length_drop]; show _ + 1 + _ ≤ _; omega) fun q5 M4 s4' hq4 => ?_
    have s14 := (s12.trans s3'').trans s4'
    rw [List.append_assoc] at hq4
    have ha := ha.same s14
    have tb := tb.same s14
    refine ⟨_, _, rfl, TupV.bad (us := (rs.take n).map fun (r : Addr × List Int) => V.ref r.1) (v := v) (ws := (rs.drop (n + 1)).map fun (r : Addr × List Int) => V.ref r.1) hq4 (by rw [List.length_map, List.length_take, List.length_map, List.length_drop]; omega) (rows_rv fun r h => ha.ok r (List.mem_of_mem_take h)) (RowV.same s14 hw) (rows_rv fun r h => ha.ok r (List.mem_of_mem_drop h)), tb, fun M5 s5' => ⟨_, _, rfl, rfl, _, rfl, ifFa rfl ?_⟩⟩
    have ha := ha.same s5'
    have tb := tb.same s5'
    -- too few, a list, too many
    refine ⟨_, rfl, _, rfl, ?_⟩
    refine slA_of ha.t fun q6 M6 s6' h6 => ?_
    rw [show ((15 : Int)) = ((15 : Nat) : Int) from rfl, cut_take, ← List.map_take] at h6
    have ha := ha.same s6'
    have tb := tb.same s6'
    refine ⟨_, _, rfl, TupV.all h6 (by rw [List.length_map, List.length_take]; omega) (rows_rv fun r h => ha.ok r (List.mem_of_mem_take h)) (l16n (by rw [List.length_map, List.length_take]; omega)), tb, fun M7 s7' => ⟨_, _, rfl, rfl, _, rfl, iteT ?_⟩⟩
    have ha := ha.same s7'
    have tb := tb.same s7'
    refine ⟨_, rfl, _, _, rfl, .inr ha.t, fun q7 w7 => ?_⟩
    have ha := ha.same (same_new (o := HO.lst (rs.map fun r => V.ref r.1)) w7)
    have tb := tb.over (o := HO.lst (rs.map fun r => V.ref r.1)) w7
    refine ⟨_, _, rfl, TupV.no (.lst (SqL.of upd_same)) (by decide), tb, fun M8 s8' => ⟨_, _, rfl, rfl, _, rfl, iteT ?_⟩⟩
    have ha := ha.same s8'
    have tb := tb.same s8'
    refine ⟨_, rfl, _, rfl, _, rfl, ?_⟩
    refine slA_of ha.t fun q8 M9 s9' h9 => ?_
    rw [show ((1 : Int)) = ((1 : Nat) : Int) from rfl, cut_take, ← List.map_take] at h9
    refine catA_of (tSame s9' ha.t) h9 (by rw [List.length_map, List.length_map, List.length_take]; omega) fun q9 M10 s10' h10 => ?_
    have s910 := s9'.trans s10'
    have ha := ha.same s910
    have tb := tb.same s910
    refine ⟨_, _, rfl, TupV.all (xs := (rs ++ rs.take 1).map fun r => V.ref r.1) (by rw [List.map_append]; exact h10) (by rw [List.length_map, List.length_append, List.length_take]; omega) (rows_rv fun r h => by
      rcases List.mem_append.mp h with h | h
      · exact ha.ok r h
      · exact ha.ok r (List.mem_of_mem_take h)) (l16n (by rw [List.length_map, List.length_append, List.length_take]; omega)), tb, fun M11 s11' => ⟨_, _, rfl, rfl, fin _⟩⟩

end
theorem all_mk {l : PySem.W.OpenLaw} {w : World} {K : PySem.W.Frag} {h : Heap} {mg : Str → Option Value} {fa : Addr} {q : Program} (X : K.In h) (G : h.Ns mainGlobals mg) (hfa : mg "law" = some (.ref fa)) (TQ : TabsOf q K h)
    {od_is_whole an_is_whole : Option Addr} {sl_is_whole : Array (Option Value)} {oc_is_whole kV_is_whole dc_is_whole pm_is_whole cd_is_whole ct_is_whole : Value} {f_is_whole : Addr}
    (a_is_whole : PySem.W.nsIn K mainGlobals "is_whole" = some (some (.ref f_is_whole)))
    (l_is_whole : K.lookup f_is_whole = some ⟨oc_is_whole, od_is_whole, .func (PySem.W.fnOf "is_whole" "is_whole" (defArgs s_is_whole) (defBody s_is_whole) (defScope s_is_whole) .none kV_is_whole dc_is_whole pm_is_whole an_is_whole cd_is_whole ct_is_whole), sl_is_whole⟩)
    (c_is_whole : PySem.W.codeIn K cd_is_whole "is_whole" = true) (k_is_whole : PySem.W.keepIn K (.ref f_is_whole) = true)
    {od_is_pair an_is_pair : Option Addr} {sl_is_pair : Array (Option Value)} {oc_is_pair kV_is_pair dc_is_pair pm_is_pair cd_is_pair ct_is_pair : Value} {f_is_pair : Addr}
    (a_is_pair : PySem.W.nsIn K mainGlobals "is_pair" = some (some (.ref f_is_pair)))
    (l_is_pair : K.lookup f_is_pair = some ⟨oc_is_pair, od_is_pair, .func (PySem.W.fnOf "is_pair" "is_pair" (defArgs s_is_pair) (defBody s_is_pair) (defScope s_is_pair) .none kV_is_pair dc_is_pair pm_is_pair an_is_pair cd_is_pair ct_is_pair), sl_is_pair⟩)
    (c_is_pair : PySem.W.codeIn K cd_is_pair "is_pair" = true) (k_is_pair : PySem.W.keepIn K (.ref f_is_pair) = true)
    {od_is_between an_is_between : Option Addr} {sl_is_between : Array (Option Value)} {oc_is_between kV_is_between dc_is_between pm_is_between cd_is_between ct_is_between : Value} {f_is_between : Addr}
    (a_is_between : PySem.W.nsIn K mainGlobals "is_between" = some (some (.ref f_is_between)))
    (l_is_between : K.lookup f_is_between = some ⟨oc_is_between, od_is_between, .func (PySem.W.fnOf "is_between" "is_between" (defArgs s_is_between) (defBody s_is_between) (defScope s_is_between) .none kV_is_between dc_is_between pm_is_between an_is_between cd_is_between ct_is_between), sl_is_between⟩)
    (c_is_between : PySem.W.codeIn K cd_is_between "is_between" = true) (k_is_between : PySem.W.keepIn K (.ref f_is_between) = true)
    {od_need an_need : Option Addr} {sl_need : Array (Option Value)} {oc_need kV_need dc_need pm_need cd_need ct_need : Value} {f_need : Addr}
    (a_need : PySem.W.nsIn K mainGlobals "need" = some (some (.ref f_need)))
    (l_need : K.lookup f_need = some ⟨oc_need, od_need, .func (PySem.W.fnOf "need" "need" (defArgs s_need) (defBody s_need) (defScope s_need) .none kV_need dc_need pm_need an_need cd_need ct_need), sl_need⟩)
    (c_need : PySem.W.codeIn K cd_need "need" = true) (k_need : PySem.W.keepIn K (.ref f_need) = true)
    {od_is_row an_is_row : Option Addr} {sl_is_row : Array (Option Value)} {oc_is_row kV_is_row dc_is_row pm_is_row cd_is_row ct_is_row : Value} {f_is_row : Addr}
    (a_is_row : PySem.W.nsIn K mainGlobals "is_row" = some (some (.ref f_is_row)))
    (l_is_row : K.lookup f_is_row = some ⟨oc_is_row, od_is_row, .func (PySem.W.fnOf "is_row" "is_row" (defArgs s_is_row) (defBody s_is_row) (defScope s_is_row) .none kV_is_row dc_is_row pm_is_row an_is_row cd_is_row ct_is_row), sl_is_row⟩)
    (c_is_row : PySem.W.codeIn K cd_is_row "is_row" = true) (k_is_row : PySem.W.keepIn K (.ref f_is_row) = true)
    {od_is_sheet an_is_sheet : Option Addr} {sl_is_sheet : Array (Option Value)} {oc_is_sheet kV_is_sheet dc_is_sheet pm_is_sheet cd_is_sheet ct_is_sheet : Value} {f_is_sheet : Addr}
    (a_is_sheet : PySem.W.nsIn K mainGlobals "is_sheet" = some (some (.ref f_is_sheet)))
    (l_is_sheet : K.lookup f_is_sheet = some ⟨oc_is_sheet, od_is_sheet, .func (PySem.W.fnOf "is_sheet" "is_sheet" (defArgs s_is_sheet) (defBody s_is_sheet) (defScope s_is_sheet) .none kV_is_sheet dc_is_sheet pm_is_sheet an_is_sheet cd_is_sheet ct_is_sheet), sl_is_sheet⟩)
    (c_is_sheet : PySem.W.codeIn K cd_is_sheet "is_sheet" = true) (k_is_sheet : PySem.W.keepIn K (.ref f_is_sheet) = true)
    {od_is_run an_is_run : Option Addr} {sl_is_run : Array (Option Value)} {oc_is_run kV_is_run dc_is_run pm_is_run cd_is_run ct_is_run : Value} {f_is_run : Addr}
    (a_is_run : PySem.W.nsIn K mainGlobals "is_run" = some (some (.ref f_is_run)))
    (l_is_run : K.lookup f_is_run = some ⟨oc_is_run, od_is_run, .func (PySem.W.fnOf "is_run" "is_run" (defArgs s_is_run) (defBody s_is_run) (defScope s_is_run) .none kV_is_run dc_is_run pm_is_run an_is_run cd_is_run ct_is_run), sl_is_run⟩)
    (c_is_run : PySem.W.codeIn K cd_is_run "is_run" = true) (k_is_run : PySem.W.keepIn K (.ref f_is_run) = true)
    {od_is_packed an_is_packed : Option Addr} {sl_is_packed : Array (Option Value)} {oc_is_packed kV_is_packed dc_is_packed pm_is_packed cd_is_packed ct_is_packed : Value} {f_is_packed : Addr}
    (a_is_packed : PySem.W.nsIn K mainGlobals "is_packed" = some (some (.ref f_is_packed)))
    (l_is_packed : K.lookup f_is_packed = some ⟨oc_is_packed, od_is_packed, .func (PySem.W.fnOf "is_packed" "is_packed" (defArgs s_is_packed) (defBody s_is_packed) (defScope s_is_packed) .none kV_is_packed dc_is_packed pm_is_packed an_is_packed cd_is_packed ct_is_packed), sl_is_packed⟩)
    (c_is_packed : PySem.W.codeIn K cd_is_packed "is_packed" = true) (k_is_packed : PySem.W.keepIn K (.ref f_is_packed) = true)
    {od_packed_sheet an_packed_sheet : Option Addr} {sl_packed_sheet : Array (Option Value)} {oc_packed_sheet kV_packed_sheet dc_packed_sheet pm_packed_sheet cd_packed_sheet ct_packed_sheet : Value} {f_packed_sheet : Addr}
    (a_packed_sheet : PySem.W.nsIn K mainGlobals "packed_sheet" = some (some (.ref f_packed_sheet)))
    (l_packed_sheet : K.lookup f_packed_sheet = some ⟨oc_packed_sheet, od_packed_sheet, .func (PySem.W.fnOf "packed_sheet" "packed_sheet" (defArgs s_packed_sheet) (defBody s_packed_sheet) (defScope s_packed_sheet) .none kV_packed_sheet dc_packed_sheet pm_packed_sheet an_packed_sheet cd_packed_sheet ct_packed_sheet), sl_packed_sheet⟩)
    (c_packed_sheet : PySem.W.codeIn K cd_packed_sheet "packed_sheet" = true) (k_packed_sheet : PySem.W.keepIn K (.ref f_packed_sheet) = true)
    {od_unpacked_sheet an_unpacked_sheet : Option Addr} {sl_unpacked_sheet : Array (Option Value)} {oc_unpacked_sheet kV_unpacked_sheet dc_unpacked_sheet pm_unpacked_sheet cd_unpacked_sheet ct_unpacked_sheet : Value} {f_unpacked_sheet : Addr}
    (a_unpacked_sheet : PySem.W.nsIn K mainGlobals "unpacked_sheet" = some (some (.ref f_unpacked_sheet)))
    (l_unpacked_sheet : K.lookup f_unpacked_sheet = some ⟨oc_unpacked_sheet, od_unpacked_sheet, .func (PySem.W.fnOf "unpacked_sheet" "unpacked_sheet" (defArgs s_unpacked_sheet) (defBody s_unpacked_sheet) (defScope s_unpacked_sheet) .none kV_unpacked_sheet dc_unpacked_sheet pm_unpacked_sheet an_unpacked_sheet cd_unpacked_sheet ct_unpacked_sheet), sl_unpacked_sheet⟩)
    (c_unpacked_sheet : PySem.W.codeIn K cd_unpacked_sheet "unpacked_sheet" = true) (k_unpacked_sheet : PySem.W.keepIn K (.ref f_unpacked_sheet) = true)
    {od__law_stream an__law_stream : Option Addr} {sl__law_stream : Array (Option Value)} {oc__law_stream kV__law_stream dc__law_stream pm__law_stream cd__law_stream ct__law_stream : Value} {f__law_stream : Addr}
    (a__law_stream : PySem.W.nsIn K mainGlobals "_law_stream" = some (some (.ref f__law_stream)))
    (l__law_stream : K.lookup f__law_stream = some ⟨oc__law_stream, od__law_stream, .func (PySem.W.fnOf "_law_stream" "_law_stream" (defArgs s__law_stream) (defBody s__law_stream) (defScope s__law_stream) .none kV__law_stream dc__law_stream pm__law_stream an__law_stream cd__law_stream ct__law_stream), sl__law_stream⟩)
    (c__law_stream : PySem.W.codeIn K cd__law_stream "_law_stream" = true) (k__law_stream : PySem.W.keepIn K (.ref f__law_stream) = true)
    {od__law_next an__law_next : Option Addr} {sl__law_next : Array (Option Value)} {oc__law_next kV__law_next dc__law_next pm__law_next cd__law_next ct__law_next : Value} {f__law_next : Addr}
    (a__law_next : PySem.W.nsIn K mainGlobals "_law_next" = some (some (.ref f__law_next)))
    (l__law_next : K.lookup f__law_next = some ⟨oc__law_next, od__law_next, .func (PySem.W.fnOf "_law_next" "_law_next" (defArgs s__law_next) (defBody s__law_next) (defScope s__law_next) .none kV__law_next dc__law_next pm__law_next an__law_next cd__law_next ct__law_next), sl__law_next⟩)
    (c__law_next : PySem.W.codeIn K cd__law_next "_law_next" = true) (k__law_next : PySem.W.keepIn K (.ref f__law_next) = true)
    {od__law_is_integer an__law_is_integer : Option Addr} {sl__law_is_integer : Array (Option Value)} {oc__law_is_integer kV__law_is_integer dc__law_is_integer pm__law_is_integer cd__law_is_integer ct__law_is_integer : Value} {f__law_is_integer : Addr}
    (a__law_is_integer : PySem.W.nsIn K mainGlobals "_law_is_integer" = some (some (.ref f__law_is_integer)))
    (l__law_is_integer : K.lookup f__law_is_integer = some ⟨oc__law_is_integer, od__law_is_integer, .func (PySem.W.fnOf "_law_is_integer" "_law_is_integer" (defArgs s__law_is_integer) (defBody s__law_is_integer) (defScope s__law_is_integer) .none kV__law_is_integer dc__law_is_integer pm__law_is_integer an__law_is_integer cd__law_is_integer ct__law_is_integer), sl__law_is_integer⟩)
    (c__law_is_integer : PySem.W.codeIn K cd__law_is_integer "_law_is_integer" = true) (k__law_is_integer : PySem.W.keepIn K (.ref f__law_is_integer) = true)
    {od__law_sheet an__law_sheet : Option Addr} {sl__law_sheet : Array (Option Value)} {oc__law_sheet kV__law_sheet dc__law_sheet pm__law_sheet cd__law_sheet ct__law_sheet : Value} {f__law_sheet : Addr}
    (a__law_sheet : PySem.W.nsIn K mainGlobals "_law_sheet" = some (some (.ref f__law_sheet)))
    (l__law_sheet : K.lookup f__law_sheet = some ⟨oc__law_sheet, od__law_sheet, .func (PySem.W.fnOf "_law_sheet" "_law_sheet" (defArgs s__law_sheet) (defBody s__law_sheet) (defScope s__law_sheet) .none kV__law_sheet dc__law_sheet pm__law_sheet an__law_sheet cd__law_sheet ct__law_sheet), sl__law_sheet⟩)
    (c__law_sheet : PySem.W.codeIn K cd__law_sheet "_law_sheet" = true) (k__law_sheet : PySem.W.keepIn K (.ref f__law_sheet) = true)
    {od__law_runs an__law_runs : Option Addr} {sl__law_runs : Array (Option Value)} {oc__law_runs kV__law_runs dc__law_runs pm__law_runs cd__law_runs ct__law_runs : Value} {f__law_runs : Addr}
    (a__law_runs : PySem.W.nsIn K mainGlobals "_law_runs" = some (some (.ref f__law_runs)))
    (l__law_runs : K.lookup f__law_runs = some ⟨oc__law_runs, od__law_runs, .func (PySem.W.fnOf "_law_runs" "_law_runs" (defArgs s__law_runs) (defBody s__law_runs) (defScope s__law_runs) .none kV__law_runs dc__law_runs pm__law_runs an__law_runs cd__law_runs ct__law_runs), sl__law_runs⟩)
    (c__law_runs : PySem.W.codeIn K cd__law_runs "_law_runs" = true) (k__law_runs : PySem.W.keepIn K (.ref f__law_runs) = true)
    {od__law_spoilt an__law_spoilt : Option Addr} {sl__law_spoilt : Array (Option Value)} {oc__law_spoilt kV__law_spoilt dc__law_spoilt pm__law_spoilt cd__law_spoilt ct__law_spoilt : Value} {f__law_spoilt : Addr}
    (a__law_spoilt : PySem.W.nsIn K mainGlobals "_law_spoilt" = some (some (.ref f__law_spoilt)))
    (l__law_spoilt : K.lookup f__law_spoilt = some ⟨oc__law_spoilt, od__law_spoilt, .func (PySem.W.fnOf "_law_spoilt" "_law_spoilt" (defArgs s__law_spoilt) (defBody s__law_spoilt) (defScope s__law_spoilt) .none kV__law_spoilt dc__law_spoilt pm__law_spoilt an__law_spoilt cd__law_spoilt ct__law_spoilt), sl__law_spoilt⟩)
    (c__law_spoilt : PySem.W.codeIn K cd__law_spoilt "_law_spoilt" = true) (k__law_spoilt : PySem.W.keepIn K (.ref f__law_spoilt) = true)
    {od__law_refused an__law_refused : Option Addr} {sl__law_refused : Array (Option Value)} {oc__law_refused kV__law_refused dc__law_refused pm__law_refused cd__law_refused ct__law_refused : Value} {f__law_refused : Addr}
    (a__law_refused : PySem.W.nsIn K mainGlobals "_law_refused" = some (some (.ref f__law_refused)))
    (l__law_refused : K.lookup f__law_refused = some ⟨oc__law_refused, od__law_refused, .func (PySem.W.fnOf "_law_refused" "_law_refused" (defArgs s__law_refused) (defBody s__law_refused) (defScope s__law_refused) .none kV__law_refused dc__law_refused pm__law_refused an__law_refused cd__law_refused ct__law_refused), sl__law_refused⟩)
    (c__law_refused : PySem.W.codeIn K cd__law_refused "_law_refused" = true) (k__law_refused : PySem.W.keepIn K (.ref f__law_refused) = true)
    {od_law an_law : Option Addr} {sl_law : Array (Option Value)} {oc_law kV_law dc_law pm_law cd_law ct_law : Value} {f_law : Addr}
    (a_law : PySem.W.nsIn K mainGlobals "law" = some (some (.ref f_law)))
    (l_law : K.lookup f_law = some ⟨oc_law, od_law, .func (PySem.W.fnOf "law" "law" (defArgs s_law) (defBody s_law) (defScope s_law) .none kV_law dc_law pm_law an_law cd_law ct_law), sl_law⟩)
    (c_law : PySem.W.codeIn K cd_law "law" = true) (k_law : PySem.W.keepIn K (.ref f_law) = true)
    (z_abs : PySem.W.nsIn K mainGlobals "abs" = some none)
    (z_all : PySem.W.nsIn K mainGlobals "all" = some none)
    (z_bool : PySem.W.nsIn K mainGlobals "bool" = some none)
    (z_int : PySem.W.nsIn K mainGlobals "int" = some none)
    (z_isinstance : PySem.W.nsIn K mainGlobals "isinstance" = some none)
    (z_len : PySem.W.nsIn K mainGlobals "len" = some none)
    (z_list : PySem.W.nsIn K mainGlobals "list" = some none)
    (z_range : PySem.W.nsIn K mainGlobals "range" = some none)
    (z_sum : PySem.W.nsIn K mainGlobals "sum" = some none)
    (z_tuple : PySem.W.nsIn K mainGlobals "tuple" = some none)
    (z_zip : PySem.W.nsIn K mainGlobals "zip" = some none)
    {t_MOST_COLOUR : Tok} (v_MOST_COLOUR : PySem.W.nsIn K mainGlobals "MOST_COLOUR" = some (some (.int (63) t_MOST_COLOUR)))
    {t_SIDE : Tok} (v_SIDE : PySem.W.nsIn K mainGlobals "SIDE" = some (some (.int (16) t_SIDE)))
    {bnm bq : Str} {bN bC bI bM : Addr} {bbs : List Value} {bsn : List Str} {bsub : List Value} {bab : Bool} {bcol : Option Bool} {bdd : Option Addr} {bm0 bm1 bm2 bm3 bm5 : Option Value} {boc bdc bpm bcd bct : Value} {bod ban : Option Addr} {bsl : Array (Option Value)}
    (baC : PySem.W.nsIn K mainGlobals "BadValue" = some (some (.ref bC)))
    (bxL : K.lookup bC = some (excClassObj bnm bq bC bN bbs [.ref bM, .type "ValueError", .type "Exception", .type "BaseException", .type "object"] true bsn bsub bab bcol bdd bm0 bm1 bm2 bm3 bm5 "ValueError.__new__"))
    (bsa : PySem.W.findIn K (.ref bC) "__setattr__" = some (some (.builtin "object.__setattr__"))) (bga : PySem.W.findIn K (.ref bC) "__getattribute__" = some (some (.builtin "BaseException.__getattribute__"))) (bgg : PySem.W.findIn K (.ref bC) "__getattr__" = some none) (bnb : PySem.W.findIn K (.ref bC) "name" = some none)
    (ba1 : PySem.W.findIn K (.ref bC) "__init__" = some (some (.ref bI))) (bt1 : PySem.W.typeIn K (.ref bI) = some (.type "function"))
    (bl1 : K.lookup bI = some ⟨boc, bod, .func (PySem.W.fnOf "__init__" "BadValue.__init__" (PySem.BvX.iA ⟨6, 17, 6, 21⟩ ⟨6, 23, 6, 27⟩) (PySem.BvX.iB ⟨7, 8, 7, 12⟩ ⟨7, 8, 7, 17⟩ ⟨7, 20, 7, 24⟩ ⟨7, 8, 7, 24⟩) PySem.BvX.iS .none .none bdc bpm ban bcd bct), bsl⟩) (bc1 : PySem.W.codeIn K bcd "BadValue.__init__" = true)
    (bkC : PySem.W.keepIn K (.ref bC) = true) (beC : PySem.W.subIn K (.ref bC) (.type "BaseException") = some true) (btC : PySem.W.typeIn K (.ref bC) = some (.type "type")) (bhC : PySem.W.hasDictIn K bC = true) (biC : PySem.W.isClsIn K bC = true) (bsC : PySem.W.subIn K (.ref bC) (.ref bC) = some true)
    {cc_is_row P_is_row : Addr} {t1_is_row : Value} {t2_is_row : Option Addr} {t3_is_row : Array (Option Value)} {vs_is_row : Array Value}
    (e_is_row : cd_is_row = .ref cc_is_row) (o_is_row : K.lookup cc_is_row = some ⟨t1_is_row, t2_is_row, .fields vs_is_row, t3_is_row⟩) (v_is_row : (vs_is_row[11]? : Option Value) = some (.ref P_is_row)) (nl_is_row : K.lookup P_is_row = none)
    (rc_is_row : ((PyProof.Rows.recsOf q).any fun e => e.name == ("is_row" : Str)) = true)
    {cc_is_sheet P_is_sheet : Addr} {t1_is_sheet : Value} {t2_is_sheet : Option Addr} {t3_is_sheet : Array (Option Value)} {vs_is_sheet : Array Value}
    (e_is_sheet : cd_is_sheet = .ref cc_is_sheet) (o_is_sheet : K.lookup cc_is_sheet = some ⟨t1_is_sheet, t2_is_sheet, .fields vs_is_sheet, t3_is_sheet⟩) (v_is_sheet : (vs_is_sheet[11]? : Option Value) = some (.ref P_is_sheet)) (nl_is_sheet : K.lookup P_is_sheet = none)
    (rc_is_sheet : ((PyProof.Rows.recsOf q).any fun e => e.name == ("is_sheet" : Str)) = true)
    {cc_is_packed P_is_packed : Addr} {t1_is_packed : Value} {t2_is_packed : Option Addr} {t3_is_packed : Array (Option Value)} {vs_is_packed : Array Value}
    (e_is_packed : cd_is_packed = .ref cc_is_packed) (o_is_packed : K.lookup cc_is_packed = some ⟨t1_is_packed, t2_is_packed, .fields vs_is_packed, t3_is_packed⟩) (v_is_packed : (vs_is_packed[11]? : Option Value) = some (.ref P_is_packed)) (nl_is_packed : K.lookup P_is_packed = none)
    (rc_is_packed : ((PyProof.Rows.recsOf q).any fun e => e.name == ("is_packed" : Str)) = true)
    : LamX.LawAtS l w K CX0 12 63 "script" mg fa h := by
  have e := hfa.symm.trans (PySem.W.mg_of X G a_law)
  cases e
  let T : Txt K mg := {
    a_is_whole := f_is_whole, d_is_whole := _, F_is_whole := fun_mk (st := s_is_whole) l_is_whole c_is_whole k_is_whole, m_is_whole := PySem.W.mg_of X G a_is_whole,
    b_is_whole := (fun_mk (st := s_is_whole) l_is_whole c_is_whole k_is_whole).binds (ps := ["value"]) fun _ _ _ _ _ _ us hl => match us, hl with | [_], _ => rfl,
    a_is_pair := f_is_pair, d_is_pair := _, F_is_pair := fun_mk (st := s_is_pair) l_is_pair c_is_pair k_is_pair, m_is_pair := PySem.W.mg_of X G a_is_pair,
    b_is_pair := (fun_mk (st := s_is_pair) l_is_pair c_is_pair k_is_pair).binds (ps := ["value"]) fun _ _ _ _ _ _ us hl => match us, hl with | [_], _ => rfl,
    a_is_between := f_is_between, d_is_between := _, F_is_between := fun_mk (st := s_is_between) l_is_between c_is_between k_is_between, m_is_between := PySem.W.mg_of X G a_is_between,
    b_is_between := (fun_mk (st := s_is_between) l_is_between c_is_between k_is_between).binds (ps := ["value", "least", "most"]) fun _ _ _ _ _ _ us hl => match us, hl with | [_, _, _], _ => rfl,
    a_need := f_need, d_need := _, F_need := fun_mk (st := s_need) l_need c_need k_need, m_need := PySem.W.mg_of X G a_need,
    b_need := (fun_mk (st := s_need) l_need c_need k_need).binds (ps := ["holds", "name"]) fun _ _ _ _ _ _ us hl => match us, hl with | [_, _], _ => rfl,
    a_is_row := f_is_row, d_is_row := _, cc_is_row := cc_is_row, P_is_row := P_is_row, F_is_row := funT_mk (st := s_is_row) l_is_row c_is_row k_is_row e_is_row, m_is_row := PySem.W.mg_of X G a_is_row,
    b_is_row := (fun_mk (st := s_is_row) l_is_row c_is_row k_is_row).binds (ps := ["value"]) fun _ _ _ _ _ _ us hl => match us, hl with | [_], _ => rfl,
    a_is_sheet := f_is_sheet, d_is_sheet := _, cc_is_sheet := cc_is_sheet, P_is_sheet := P_is_sheet, F_is_sheet := funT_mk (st := s_is_sheet) l_is_sheet c_is_sheet k_is_sheet e_is_sheet, m_is_sheet := PySem.W.mg_of X G a_is_sheet,
    b_is_sheet := (fun_mk (st := s_is_sheet) l_is_sheet c_is_sheet k_is_sheet).binds (ps := ["value"]) fun _ _ _ _ _ _ us hl => match us, hl with | [_], _ => rfl,
    a_is_run := f_is_run, d_is_run := _, F_is_run := fun_mk (st := s_is_run) l_is_run c_is_run k_is_run, m_is_run := PySem.W.mg_of X G a_is_run,
    b_is_run := (fun_mk (st := s_is_run) l_is_run c_is_run k_is_run).binds (ps := ["value"]) fun _ _ _ _ _ _ us hl => match us, hl with | [_], _ => rfl,
    a_is_packed := f_is_packed, d_is_packed := _, cc_is_packed := cc_is_packed, P_is_packed := P_is_packed, F_is_packed := funT_mk (st := s_is_packed) l_is_packed c_is_packed k_is_packed e_is_packed, m_is_packed := PySem.W.mg_of X G a_is_packed,
    b_is_packed := (fun_mk (st := s_is_packed) l_is_packed c_is_packed k_is_packed).binds (ps := ["value"]) fun _ _ _ _ _ _ us hl => match us, hl with | [_], _ => rfl,
    a_packed_sheet := f_packed_sheet, d_packed_sheet := _, F_packed_sheet := fun_mk (st := s_packed_sheet) l_packed_sheet c_packed_sheet k_packed_sheet, m_packed_sheet := PySem.W.mg_of X G a_packed_sheet,
    b_packed_sheet := (fun_mk (st := s_packed_sheet) l_packed_sheet c_packed_sheet k_packed_sheet).binds (ps := ["sheet"]) fun _ _ _ _ _ _ us hl => match us, hl with | [_], _ => rfl,
    a_unpacked_sheet := f_unpacked_sheet, d_unpacked_sheet := _, F_unpacked_sheet := fun_mk (st := s_unpacked_sheet) l_unpacked_sheet c_unpacked_sheet k_unpacked_sheet, m_unpacked_sheet := PySem.W.mg_of X G a_unpacked_sheet,
    b_unpacked_sheet := (fun_mk (st := s_unpacked_sheet) l_unpacked_sheet c_unpacked_sheet k_unpacked_sheet).binds (ps := ["packed"]) fun _ _ _ _ _ _ us hl => match us, hl with | [_], _ => rfl,
    a__law_stream := f__law_stream, d__law_stream := _, F__law_stream := fun_mk (st := s__law_stream) l__law_stream c__law_stream k__law_stream, m__law_stream := PySem.W.mg_of X G a__law_stream,
    b__law_stream := (fun_mk (st := s__law_stream) l__law_stream c__law_stream k__law_stream).binds (ps := ["script"]) fun _ _ _ _ _ _ us hl => match us, hl with | [_], _ => rfl,
    a__law_next := f__law_next, d__law_next := _, F__law_next := fun_mk (st := s__law_next) l__law_next c__law_next k__law_next, m__law_next := PySem.W.mg_of X G a__law_next,
    b__law_next := (fun_mk (st := s__law_next) l__law_next c__law_next k__law_next).binds (ps := ["stream", "many"]) fun _ _ _ _ _ _ us hl => match us, hl with | [_, _], _ => rfl,
    a__law_is_integer := f__law_is_integer, d__law_is_integer := _, F__law_is_integer := fun_mk (st := s__law_is_integer) l__law_is_integer c__law_is_integer k__law_is_integer, m__law_is_integer := PySem.W.mg_of X G a__law_is_integer,
    b__law_is_integer := (fun_mk (st := s__law_is_integer) l__law_is_integer c__law_is_integer k__law_is_integer).binds (ps := ["actual"]) fun _ _ _ _ _ _ us hl => match us, hl with | [_], _ => rfl,
    a__law_sheet := f__law_sheet, d__law_sheet := _, F__law_sheet := fun_mk (st := s__law_sheet) l__law_sheet c__law_sheet k__law_sheet, m__law_sheet := PySem.W.mg_of X G a__law_sheet,
    b__law_sheet := (fun_mk (st := s__law_sheet) l__law_sheet c__law_sheet k__law_sheet).binds (ps := ["stream"]) fun _ _ _ _ _ _ us hl => match us, hl with | [_], _ => rfl,
    a__law_runs := f__law_runs, d__law_runs := _, F__law_runs := fun_mk (st := s__law_runs) l__law_runs c__law_runs k__law_runs, m__law_runs := PySem.W.mg_of X G a__law_runs,
    b__law_runs := (fun_mk (st := s__law_runs) l__law_runs c__law_runs k__law_runs).binds (ps := ["sheet"]) fun _ _ _ _ _ _ us hl => match us, hl with | [_], _ => rfl,
    a__law_spoilt := f__law_spoilt, d__law_spoilt := _, F__law_spoilt := fun_mk (st := s__law_spoilt) l__law_spoilt c__law_spoilt k__law_spoilt, m__law_spoilt := PySem.W.mg_of X G a__law_spoilt,
    b__law_spoilt := (fun_mk (st := s__law_spoilt) l__law_spoilt c__law_spoilt k__law_spoilt).binds (ps := ["stream", "packed"]) fun _ _ _ _ _ _ us hl => match us, hl with | [_, _], _ => rfl,
    a__law_refused := f__law_refused, d__law_refused := _, F__law_refused := fun_mk (st := s__law_refused) l__law_refused c__law_refused k__law_refused, m__law_refused := PySem.W.mg_of X G a__law_refused,
    b__law_refused := (fun_mk (st := s__law_refused) l__law_refused c__law_refused k__law_refused).binds (ps := ["packed"]) fun _ _ _ _ _ _ us hl => match us, hl with | [_], _ => rfl,
    a_law := fa, d_law := _, F_law := fun_mk (st := s_law) l_law c_law k_law, m_law := PySem.W.mg_of X G a_law,
    b_law := (fun_mk (st := s_law) l_law c_law k_law).binds (ps := ["script"]) fun _ _ _ _ _ _ us hl => match us, hl with | [_], _ => rfl,
    n_abs := PySem.W.mg_none_of X G z_abs,
    n_all := PySem.W.mg_none_of X G z_all,
    n_bool := PySem.W.mg_none_of X G z_bool,
    n_int := PySem.W.mg_none_of X G z_int,
    n_isinstance := PySem.W.mg_none_of X G z_isinstance,
    n_len := PySem.W.mg_none_of X G z_len,
    n_list := PySem.W.mg_none_of X G z_list,
    n_range := PySem.W.mg_none_of X G z_range,
    n_sum := PySem.W.mg_none_of X G z_sum,
    n_tuple := PySem.W.mg_none_of X G z_tuple,
    n_zip := PySem.W.mg_none_of X G z_zip,
    c_MOST_COLOUR := ⟨_, PySem.W.mg_of X G v_MOST_COLOUR⟩,
    c_SIDE := ⟨_, PySem.W.mg_of X G v_SIDE⟩,
    C_BadValue := bC, i_BadValue := bI,
    bv := { gC := PySem.W.mg_of X G baC, cls := ⟨bnm, bq, bN, bbs, _, bsn, bsub, bab, bcol, bdd, bm0, bm1, bm2, bm3, bm5, bxL, rfl⟩, sa := bsa, ga := bga, gg := bgg, noN := bnb, iC := ba1, tC := bt1, kC := bkC, exC := beC, tyC := btC, hdC := bhC, te := exm_self beC biC btC bsC, fn := ⟨_, _, _, _, _, _, _, _, _, _, _, _, _, _, bl1, bc1⟩ } }
  have tb_is_row := TQ "is_row" cc_is_row P_is_row rc_is_row (tabIn_of a_is_row l_is_row rfl e_is_row o_is_row v_is_row)
  have tb_is_sheet := TQ "is_sheet" cc_is_sheet P_is_sheet rc_is_sheet (tabIn_of a_is_sheet l_is_sheet rfl e_is_sheet o_is_sheet v_is_sheet)
  have tb_is_packed := TQ "is_packed" cc_is_packed P_is_packed rc_is_packed (tabIn_of a_is_packed l_is_packed rfl e_is_packed o_is_packed v_is_packed)
  refine ⟨_, [(cc_is_row, P_is_row), (cc_is_sheet, P_is_sheet), (cc_is_packed, P_is_packed)], spLawT K T.ts, List.forall_mem_cons.mpr ⟨tb_is_row.2, List.forall_mem_cons.mpr ⟨tb_is_sheet.2, List.forall_mem_cons.mpr ⟨tb_is_packed.2, fun _ z => nomatch z⟩⟩⟩, List.forall_mem_cons.mpr ⟨nl_is_row, List.forall_mem_cons.mpr ⟨nl_is_sheet, List.forall_mem_cons.mpr ⟨nl_is_packed, fun _ z => nomatch z⟩⟩⟩, List.forall_mem_cons.mpr ⟨tb_is_row.1, List.forall_mem_cons.mpr ⟨tb_is_sheet.1, List.forall_mem_cons.mpr ⟨tb_is_packed.1, fun _ z => nomatch z⟩⟩⟩, fun s v => .of_eq rfl, fun H a ns h1 h2 h3 h4 => ⟨a, ns, rfl, h4, h1, tbs_nil rfl h3, fun _ => rfl⟩, fun base _ _ hb => ok_law T ⟨(let z := hb (cc_is_row, P_is_row) (by simp); ⟨z.code, z.bm, z.gP⟩), (let z := hb (cc_is_sheet, P_is_sheet) (by simp); ⟨z.code, z.bm, z.gP⟩), (let z := hb (cc_is_packed, P_is_packed) (by simp); ⟨z.code, z.bm, z.gP⟩)⟩⟩
end My
open PySem PySem.W PyProof.Rows
set_option maxRecDepth 100000 in
set_option maxHeartbeats 0 in
theorem PySem.Challenge.cw_trueatlas_k70_packed_sheets_holds : PySem.Challenge.rw_trueatlas_k70_packed_sheets.Holds := by
  w_on; o_law; k_head; (case hw => w_witness2)
  k_fill
  refine My.walkT (l := PySem.Challenge.rw_trueatlas_k70_packed_sheets) (k := 12) ⟨rfl, by decide, by decide⟩ rfl rfl (fun w h Y => PySem.W.kIn_of Y) ?F
  case F =>
    intro w mg fa h TQ KX G hmg
    refine' My.all_mk (w := w) KX G hmg TQ ?a_is_whole ?l_is_whole ?c_is_whole ?k_is_whole ?a_is_pair ?l_is_pair ?c_is_pair ?k_is_pair ?a_is_between ?l_is_between ?c_is_between ?k_is_between ?a_need ?l_need ?c_need ?k_need ?a_is_row ?l_is_row ?c_is_row ?k_is_row ?a_is_sheet ?l_is_sheet ?c_is_sheet ?k_is_sheet ?a_is_run ?l_is_run ?c_is_run ?k_is_run ?a_is_packed ?l_is_packed ?c_is_packed ?k_is_packed ?a_packed_sheet ?l_packed_sheet ?c_packed_sheet ?k_packed_sheet ?a_unpacked_sheet ?l_unpacked_sheet ?c_unpacked_sheet ?k_unpacked_sheet ?a__law_stream ?l__law_stream ?c__law_stream ?k__law_stream ?a__law_next ?l__law_next ?c__law_next ?k__law_next ?a__law_is_integer ?l__law_is_integer ?c__law_is_integer ?k__law_is_integer ?a__law_sheet ?l__law_sheet ?c__law_sheet ?k__law_sheet ?a__law_runs ?l__law_runs ?c__law_runs ?k__law_runs ?a__law_spoilt ?l__law_spoilt ?c__law_spoilt ?k__law_spoilt ?a__law_refused ?l__law_refused ?c__law_refused ?k__law_refused ?a_law ?l_law ?c_law ?k_law ?z_abs ?z_all ?z_bool ?z_int ?z_isinstance ?z_len ?z_list ?z_range ?z_sum ?z_tuple ?z_zip ?v_MOST_COLOUR ?v_SIDE ?baC ?bxL ?bsa ?bga ?bgg ?bnb ?ba1 ?bt1 ?bl1 ?bc1 ?bkC ?beC ?btC ?bhC ?biC ?bsC ?e_is_row ?o_is_row ?v_is_row ?nl_is_row ?rc_is_row ?e_is_sheet ?o_is_sheet ?v_is_sheet ?nl_is_sheet ?rc_is_sheet ?e_is_packed ?o_is_packed ?v_is_packed ?nl_is_packed ?rc_is_packed
    (case a_is_whole => k_is)
    (case l_is_whole => k_is)
    (case c_is_whole => k_is)
    (case k_is_whole => k_is)
    (case a_is_pair => k_is)
    (case l_is_pair => k_is)
    (case c_is_pair => k_is)
    (case k_is_pair => k_is)
    (case a_is_between => k_is)
    (case l_is_between => k_is)
    (case c_is_between => k_is)
    (case k_is_between => k_is)
    (case a_need => k_is)
    (case l_need => k_is)
    (case c_need => k_is)
    (case k_need => k_is)
    (case a_is_row => k_is)
    (case l_is_row => k_is)
    (case c_is_row => k_is)
    (case k_is_row => k_is)
    (case a_is_sheet => k_is)
    (case l_is_sheet => k_is)
    (case c_is_sheet => k_is)
    (case k_is_sheet => k_is)
    (case a_is_run => k_is)
    (case l_is_run => k_is)
    (case c_is_run => k_is)
    (case k_is_run => k_is)
    (case a_is_packed => k_is)
    (case l_is_packed => k_is)
    (case c_is_packed => k_is)
    (case k_is_packed => k_is)
    (case a_packed_sheet => k_is)
    (case l_packed_sheet => k_is)
    (case c_packed_sheet => k_is)
    (case k_packed_sheet => k_is)
    (case a_unpacked_sheet => k_is)
    (case l_unpacked_sheet => k_is)
    (case c_unpacked_sheet => k_is)
    (case k_unpacked_sheet => k_is)
    (case a__law_stream => k_is)
    (case l__law_stream => k_is)
    (case c__law_stream => k_is)
    (case k__law_stream => k_is)
    (case a__law_next => k_is)
    (case l__law_next => k_is)
    (case c__law_next => k_is)
    (case k__law_next => k_is)
    (case a__law_is_integer => k_is)
    (case l__law_is_integer => k_is)
    (case c__law_is_integer => k_is)
    (case k__law_is_integer => k_is)
    (case a__law_sheet => k_is)
    (case l__law_sheet => k_is)
    (case c__law_sheet => k_is)
    (case k__law_sheet => k_is)
    (case a__law_runs => k_is)
    (case l__law_runs => k_is)
    (case c__law_runs => k_is)
    (case k__law_runs => k_is)
    (case a__law_spoilt => k_is)
    (case l__law_spoilt => k_is)
    (case c__law_spoilt => k_is)
    (case k__law_spoilt => k_is)
    (case a__law_refused => k_is)
    (case l__law_refused => k_is)
    (case c__law_refused => k_is)
    (case k__law_refused => k_is)
    (case a_law => k_is)
    (case l_law => k_is)
    (case c_law => k_is)
    (case k_law => k_is)
    (case z_abs => k_is)
    (case z_all => k_is)
    (case z_bool => k_is)
    (case z_int => k_is)
    (case z_isinstance => k_is)
    (case z_len => k_is)
    (case z_list => k_is)
    (case z_range => k_is)
    (case z_sum => k_is)
    (case z_tuple => k_is)
    (case z_zip => k_is)
    (case v_MOST_COLOUR => k_is)
    (case v_SIDE => k_is)
    (case baC => k_is)
    (case bxL => k_is)
    (case bsa => k_is)
    (case bga => k_is)
    (case bgg => k_is)
    (case bnb => k_is)
    (case ba1 => k_is)
    (case bt1 => k_is)
    (case bl1 => k_is)
    (case bc1 => k_is)
    (case bkC => k_is)
    (case beC => k_is)
    (case btC => k_is)
    (case bhC => k_is)
    (case biC => k_is)
    (case bsC => first | rfl | k_is)
    (case e_is_row => rfl)
    (case o_is_row => k_is)
    (case v_is_row => rfl)
    (case nl_is_row => first | rfl | kernel_rfl)
    (case rc_is_row => first | rfl | decide +kernel)
    (case e_is_sheet => rfl)
    (case o_is_sheet => k_is)
    (case v_is_sheet => rfl)
    (case nl_is_sheet => first | rfl | kernel_rfl)
    (case rc_is_sheet => first | rfl | decide +kernel)
    (case e_is_packed => rfl)
    (case o_is_packed => k_is)
    (case v_is_packed => rfl)
    (case nl_is_packed => first | rfl | kernel_rfl)
    (case rc_is_packed => first | rfl | decide +kernel)


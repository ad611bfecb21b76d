import PyProof.Rows.All
import Wide.All
import OpenK.AllK
import Wide.FinOn
import HandS.ForMost
import HandS.ForExc
import HandS.IsInst
import HandS.Wide
import HandS.TupLe
import HandS.TupAny
import HandS.Gcd
import HandS.Codes
import HandS.AnyAll
import KE.KExcIs
import HandS.GenList
import HandS.Walk
import PyProof.SumAny
import PyProof.SeqWrite
import HandS.EndTab
import HandS.Zip
import KE.SortData
import KE.DataMinMax
import KE.DataCmp
import HandS.SortInts
import HandS.Zip
import HandS.Walk
import HandS.Style
import HandS.TupAny
import KE.KRevSl
import HandS.Walk
import HandS.Deep
import HandS.Strs
import HandS.Style
import HandS.TupAny
import KE.KRevSl
import HandS.TupSets
import KE.SortData
import KE.BitLaws
import HandS.Style
import HandS.TupAny
import HandS.Style
import HandS.TupAny
import HandS.Zip0
import HandS.Zip
import HandS.GenList
import HandS.More
import HandS.TupMul
import HandS.WordsExc
import PySem.Challenge.RW_trueatlas_k17_refusals_of_geometry
set_option Elab.async false
set_option linter.all false
set_option maxRecDepth 100000
set_option maxHeartbeats 4000000
namespace My
open PySem L2
/-! ## heaps: what stood stands; a table of a code object may have grown -/
/-- no table of a code object -/
def NT (o : HO) : Prop := ∀ ps, o ≠ .tbl ps
/-- what was o stands at b -/
def Std (H : Hp) (b : Addr) (o : HO) : Prop := H b = some o ∨ ∃ ps qs, o = .tbl ps ∧ H b = some (.tbl qs) ∧ (TriplesOk ps.toList → TriplesOk qs.toList)
theorem Std.nt {H : Hp} {b : Addr} {o : HO} (h : Std H b o) (n : NT o) : H b = some o := by
  rcases h with h | ⟨ps, _, e, _⟩
  · exact h
  · exact absurd e (n ps)
theorem Std.ne_none {H : Hp} {b : Addr} {o : HO} (h : Std H b o) : H b ≠ none := by
  rcases h with h | ⟨_, _, _, h, _⟩ <;> rw [h] <;> simp
theorem Std.over {H : Hp} {b p : Addr} {o u : HO} (h : Std H b o) (n : b ≠ p) : Std (upd H p u) b o := by
  unfold Std at h ⊢
  rw [upd_ne n]; exact h
theorem Std.next {H H' : Hp} {b : Addr} {o : HO} (h : Std H b o) (k : ∀ u, H b = some u → Std H' b u) : Std H' b o := by
  rcases h with h | ⟨ps, qs, e, h, t⟩
  · exact k o h
  · rcases k _ h with k | ⟨ps2, rs, e2, k, t2⟩
    · exact .inr ⟨ps, qs, e, k, t⟩
    · injection e2 with e2
      subst e2
      exact .inr ⟨ps, rs, e, k, fun z => t2 (t z)⟩
/-- all that was tracked stands -/
def Same (H H' : Hp) : Prop := ∀ b o, H b = some o → Std H' b o
theorem Same.refl (H : Hp) : Same H H := fun _ _ h => .inl h
theorem Same.trans {H H1 H2 : Hp} (a : Same H H1) (b : Same H1 H2) : Same H H2 := fun c o h => (a c o h).next (b c)
theorem Same.free {H H' : Hp} (e : Same H H') {l : Addr} (h : H' l = none) : H l = none := by
  cases q : H l with
  | none => rfl
  | some o => exact absurd h (e l o q).ne_none
theorem Same.get {H H' : Hp} {b : Addr} {o : HO} (e : Same H H') (h : H b = some o) (n : NT o := by intro _ z; cases z) : H' b = some o := (e b o h).nt n
theorem Same.seq {K : PySem.W.Frag} {H H' : Hp} {a : Addr} {xs : List V} (e : Same H H') (h : SqL K H a xs) : SqL K H' a xs := by
  rcases h with (h | ⟨o, h⟩) | h
  · exact .inl (.inl (e.get h))
  · exact .inl (.inr ⟨o, e.get h⟩)
  · exact .inr h
/-! ## the tables of the code objects -/
/-- the tables stand -/
def Tbs (ts : List Addr) (H : Hp) : Prop := ∀ P ∈ ts, GxR.TabG H P
theorem tabG_std {H H' : Hp} {P : Addr} (h : GxR.TabG H P) (k : ∀ u, H P = some u → Std H' P u) : GxR.TabG H' P := by
  obtain ⟨ps, e, t⟩ := h
  rcases k _ e with k | ⟨ps2, qs, e2, k, t2⟩
  · exact ⟨ps, k, t⟩
  · injection e2 with e2
    subst e2
    exact ⟨qs, k, t2 t⟩
theorem Tbs.same {ts : List Addr} {H H' : Hp} (h : Tbs ts H) (e : Same H H') : Tbs ts H' := fun P hP => tabG_std (h P hP) (e P)
theorem same_tab {P : Addr} {H H' : Hp} (g : GxR.TabG H P) (h : GxR.Tabbed P H H') : Same H H' := fun b o e => by
  by_cases q : b = P
  · subst q
    obtain ⟨ps, e1, t⟩ := g
    obtain ⟨qs, e2, t2⟩ := h.1
    rw [e1] at e
    cases e
    exact .inr ⟨ps, qs, rfl, e2, fun _ => t2⟩
  · exact .inl (by rw [h.2 b q]; exact e)
/-! ## small rules -/
theorem pe_gI {X : Cx} {x : Str} {i : Int} {pos : Pos} (hm : ∃ t, X.mg x = some (.int i t)) (hg : Gl X x := by rfl) (hd : (x == ("__debug__" : Str)) = false := by decide) (hcd : (x == ("__classdict__" : Str)) = false := by decide) : PE X (.Name x pos) (tC (.int i)) := by
  obtain ⟨t, e⟩ := hm
  exact pe_glob hg e ⟨t, rfl⟩ hd
theorem ifD {c A B : Prop} [Decidable c] (h1 : c → A) (h2 : ¬ c → B) : if decide c = true then A else B := by
  by_cases h : c
  · rw [if_pos (decide_eq_true h)]; exact h1 h
  · rw [if_neg (by rw [decide_eq_false h]; exact Bool.false_ne_true)]; exact h2 h
theorem ifND {c A B : Prop} [Decidable c] (h1 : ¬ c → A) (h2 : c → B) : if (!decide c) = true then A else B := by
  by_cases h : c
  · rw [if_neg (by rw [decide_eq_true h]; exact Bool.false_ne_true)]; exact h2 h
  · rw [if_pos (by rw [decide_eq_false h]; rfl)]; exact h1 h
theorem ifB {b : Bool} {A B : Prop} (h1 : b = true → A) (h2 : b = false → B) : if b = true then A else B := by
  cases b
  · exact iteF (h2 rfl)
  · exact iteT (h1 rfl)
theorem ifTr {b : Bool} {A B : Prop} (e : b = true) (h : A) : if b = true then A else B := by rw [if_pos e]; exact h
theorem ifFa {b : Bool} {A B : Prop} (e : b = false) (h : B) : if b = true then A else B := by rw [e]; exact iteF h
/-! ## heaps: all that stood stands, but for what is at s -/
def But (s : Addr) (H H' : Hp) : Prop := ∀ b o, b ≠ s → H b = some o → Std H' b o
theorem But.refl {s : Addr} {H : Hp} : But s H H := fun _ _ _ e => .inl e
theorem But.trans {s : Addr} {H H1 H2 : Hp} (a : But s H H1) (b : But s H1 H2) : But s H H2 := fun c o n e => (a c o n e).next fun u k => b c u n k
theorem But.new {s p : Addr} {H : Hp} {o : HO} (n : H p = none) : But s H (upd H p o) := fun b u _ e => .inl (by
  rw [upd_ne (ne_of_none e n)]; exact e)
theorem But.at {s : Addr} {H : Hp} {o : HO} : But s H (upd H s o) := fun b u n e => .inl (by rw [upd_ne n]; exact e)
theorem But.then_at {s : Addr} {H H1 : Hp} {o : HO} (a : But s H H1) : But s H (upd H1 s o) := a.trans But.at
theorem But.of_same {s : Addr} {H H' : Hp} (a : Same H H') : But s H H' := fun b o _ e => a b o e
theorem But.then_same {s : Addr} {H H1 H2 : Hp} (a : But s H H1) (b : Same H1 H2) : But s H H2 := a.trans (But.of_same b)
theorem But.get {s b : Addr} {H H' : Hp} {o : HO} (e : But s H H') (q : b ≠ s) (h : H b = some o) (n : NT o := by intro _ z; cases z) : H' b = some o := (e b o q h).nt n
theorem same_new {p : Addr} {H : Hp} {o : HO} (n : H p = none) : Same H (upd H p o) := fun b u e => .inl (by
  rw [upd_ne (ne_of_none e n)]; exact e)
theorem same_then {p : Addr} {H H1 : Hp} {o : HO} (a : Same H H1) (n : H1 p = none) : Same H (upd H1 p o) := a.trans (same_new n)
/-- behind a new object's change -/
theorem Same.put {p : Addr} {H H1 : Hp} {o : HO} (a : Same H H1) (n : H p = none) : Same H (upd H1 p o) := fun b u e => (a b u e).over (ne_of_none e n)
theorem But.put {s p : Addr} {H H1 : Hp} {o : HO} (a : But s H H1) (n : H p = none) : But s H (upd H1 p o) := fun b u q e => (a b u q e).over (ne_of_none e n)
/-- the tables stand, whatever becomes of a list -/
theorem Tbs.but {ts : List Addr} {s : Addr} {H H' : Hp} (h : Tbs ts H) (e : But s H H') (l : ∃ xs, H s = some (.lst xs)) : Tbs ts H' := fun P hP => by
  have g := h P hP
  refine tabG_std g fun u k => e P u ?_ k
  obtain ⟨ps, e1, _⟩ := g
  obtain ⟨xs, e2⟩ := l
  intro z
  rw [z, e2] at e1
  cases e1
theorem Tbs.over {ts : List Addr} {p : Addr} {H : Hp} {o : HO} (h : Tbs ts H) (n : H p = none) : Tbs ts (upd H p o) := h.same (same_new n)
theorem Tbs.put {ts : List Addr} {p : Addr} {H : Hp} {o : HO} (h : Tbs ts H) (l : ∃ xs, H p = some (.lst xs)) : Tbs ts (upd H p o) := h.but But.at l
/-- what stands at s is the stream's list: no tuple -/
def Lst (H : Hp) (s : Addr) : Prop := ∃ xs, H s = some (.lst xs)
/-! ## tuples -/
section
variable {K : PySem.W.Frag} {H H' : Hp} {a p s : Addr} {xs : List V} {o : HO}
theorem tHere : SqT K (upd H p (.tup xs)) p xs := SqT.of upd_same
theorem tSame (e : Same H H') (h : SqT K H a xs) : SqT K H' a xs := by
  rcases h with (h | ⟨o, h⟩) | h
  · exact .inl (.inl (e.get h))
  · exact .inl (.inr ⟨o, e.get h⟩)
  · exact .inr h
theorem tOver (n : H p = none) (h : SqT K H a xs) : SqT K (upd H p o) a xs := tSame (same_new n) h
theorem tAt (n : ∃ ys, H s = some (.lst ys)) (h : SqT K H a xs) : SqT K (upd H s o) a xs := by
  obtain ⟨ys, n⟩ := n
  rcases h with (h | ⟨o, h⟩) | h
  · exact .inl (.inl (by rw [upd_ne (ne_of h n (by intro z; cases z))]; exact h))
  · exact .inl (.inr ⟨o, by rw [upd_ne (ne_of h n (by intro z; cases z))]; exact h⟩)
  · exact .inr h
theorem tBut (e : But s H H') (n : Lst H s) (h : SqT K H a xs) : SqT K H' a xs := by
  obtain ⟨ys, n⟩ := n
  rcases h with (h | ⟨o, h⟩) | h
  · exact .inl (.inl (e.get (ne_of h n (by intro z; cases z)) h))
  · exact .inl (.inr ⟨o, e.get (ne_of h n (by intro z; cases z)) h⟩)
  · exact .inr h
theorem lHere : SqL K (upd H p (.lst xs)) p xs := SqL.of upd_same
theorem lOver (n : H p = none) (h : SqL K H a xs) : SqL K (upd H p o) a xs := Same.seq (same_new n) h
theorem rOver (n : H p = none) {u : HO} (h : H a = some u) : upd H p o a = some u := by rw [upd_ne (ne_of_none h n)]; exact h
end
end My
namespace My
open PySem L2
/-! ## kinds of values -/
inductive Ty (K : PySem.W.Frag) (H : Hp) : V → String → Prop where
  | non : Ty K H .non "NoneType"
  | bl (b : Bool) : Ty K H (.bl b) "bool"
  | int (i : Int) : Ty K H (.int i) "int"
  | str (x : Str) : Ty K H (.str x) "str"
  | tup {a : Addr} {xs : List V} (h : SqT K H a xs) : Ty K H (.ref a) "tuple"
  | lst {a : Addr} {xs : List V} (h : SqL K H a xs) : Ty K H (.ref a) "list"
theorem Ty.x {K : PySem.W.Frag} {H : Hp} {v : V} {n : String} (h : Ty K H v n) : TyX K H v (.type n) := by
  cases h with
  | non => exact .base .non
  | bl b => exact .base (.bl b)
  | int i => exact .base (.int i)
  | str x => exact .base (.str x)
  | tup h =>
    rcases h with (h | ⟨o, h⟩) | ⟨o, its, n, e, c, _⟩
    · exact .base (.tup h)
    · exact .fTuple h
    · exact .kTuple e c
  | lst h =>
    rcases h with (h | ⟨o, h⟩) | ⟨o, its, n, e, c, _⟩
    · exact .base (.lst h)
    · exact .base (.frz h)
    · exact .kList e c
/-- isinstance's answers among these -/
def isaB (a b : String) : Bool := (kitB a b).getD false
theorem isa {K : PySem.W.Frag} {a b : String} (h : (kitB a b).isSome = true) : PySem.W.kitOne K (.type a) (.type b) = some (isaB a b) := by
  refine kit_ty ?_
  unfold isaB
  cases e : kitB a b with
  | none => rw [e] at h; cases h
  | some r => rfl
def six : List String := ["NoneType", "bool", "int", "str", "tuple", "list"]
theorem isa_all : (six.all fun a => six.tail.all fun b => (kitB a b).isSome) = true := by decide +kernel
theorem isa_tab : (six.all fun a => six.tail.all fun b => isaB a b == (a == b || (a == "bool" && b == "int"))) = true := by decide +kernel
theorem Ty.six {K : PySem.W.Frag} {H : Hp} {v : V} {n : String} (h : Ty K H v n) : n ∈ six := by
  cases h <;> simp [My.six]
theorem isaN {K : PySem.W.Frag} {n b : String} (h : n ∈ My.six) (hb : b ∈ My.six.tail) : PySem.W.kitOne K (.type n) (.type b) = some (n == b || (n == "bool" && b == "int")) := by
  have h1 := List.all_eq_true.mp (List.all_eq_true.mp isa_all n h) b hb
  have h2 := List.all_eq_true.mp (List.all_eq_true.mp isa_tab n h) b hb
  rw [isa h1, eq_of_beq h2]
theorem small {n : Nat} (h : Nat.ble n 100 = true) : n ≤ sizeLine := Nat.le_trans (Nat.le_of_ble_eq_true h) (by decide)
/-! ## indexes -/
theorem at0 {α : Type} {a : α} {r : List α} : atI (a :: r) 0 = some a := atI_nat (j := 0) rfl
theorem at1 {α : Type} {a b : α} {r : List α} : atI (a :: b :: r) 1 = some b := atI_nat (j := 1) rfl
theorem at2 {α : Type} {a b c : α} {r : List α} : atI (a :: b :: c :: r) 2 = some c := atI_nat (j := 2) rfl
theorem at3 {α : Type} {a b c d : α} {r : List α} : atI (a :: b :: c :: d :: r) 3 = some d := atI_nat (j := 3) rfl
end My
namespace My
open PySem L2
/-! ## points -/
def coordB : V → Bool
  | .int i => decide (-1000 ≤ i) && decide (i ≤ 1000)
  | _ => false
def pointB : List V → Bool
  | [u, v] => coordB u && coordB v
  | _ => false
/-- small enough to be multiplied -/
def Sm (x : Int) : Prop := -1099511627776 ≤ x ∧ x ≤ 1099511627776
def turnI (ax ay bx dy cx cy : Int) : Int := (bx - ax) * (cy - ay) - (dy - ay) * (cx - ax)
/-- whether a point's numbers are those of the map -/
def On (x y : Int) : Prop := -1000 ≤ x ∧ x ≤ 1000 ∧ -1000 ≤ y ∧ y ≤ 1000
theorem On.b {x y : Int} (h : On x y) : pointB [.int x, .int y] = true := by
  obtain ⟨h1, h2, h3, h4⟩ := h
  simp [pointB, coordB, h1, h2, h3, h4]
theorem On.sx {x y : Int} (h : On x y) : Sm x := by unfold On at h; unfold Sm; omega
theorem On.sy {x y : Int} (h : On x y) : Sm y := by unfold On at h; unfold Sm; omega
/-! ## the stream of a law -/
/-- at s: a stream: a list of ints, the cell, its number -/
def Strm (H : Hp) (s b : Addr) : Prop := ∃ (ns : List Int) (c k : Int), H b = some (.lst (ns.map V.int)) ∧ H s = some (.lst [.ref b, .int c, .int k]) ∧ 0 ≤ c ∧ 0 ≤ k
theorem Strm.lst {H : Hp} {s b : Addr} (h : Strm H s b) : Lst H s := by
  obtain ⟨_, _, _, _, h, _⟩ := h
  exact ⟨_, h⟩
theorem tyL {K : PySem.W.Frag} {H : Hp} {p : Addr} {xs : List V} (h : H p = some (.lst xs)) : tyV K "list" (.ref p) H := .inl ⟨rfl, xs, SqL.of h⟩
theorem Strm.same {H H' : Hp} {s b : Addr} (h : Strm H s b) (e : Same H H') : Strm H' s b := by
  obtain ⟨ns, c, k, h1, h2, h3, h4⟩ := h
  exact ⟨ns, c, k, e.get h1 (by intro _ z; cases z), e.get h2, h3, h4⟩
theorem Strm.over {H : Hp} {s b p : Addr} {o : HO} (h : Strm H s b) (n : H p = none) : Strm (upd H p o) s b := h.same (same_new n)
/-- a list of the law's own grows -/
theorem Strm.at {H : Hp} {s b p : Addr} {o : HO} (h : Strm H s b) (n1 : p ≠ s) (n2 : p ≠ b) : Strm (upd H p o) s b := by
  obtain ⟨ns, c, k, h1, h2, h3, h4⟩ := h
  exact ⟨ns, c, k, by rw [upd_ne n2.symm]; exact h1, by rw [upd_ne n1.symm]; exact h2, h3, h4⟩
theorem Strm.new1 {H : Hp} {s b p : Addr} (h : Strm H s b) (n : H p = none) : p ≠ s := by
  obtain ⟨ns, c, k, h1, h2, h3, h4⟩ := h
  exact (ne_of_none h2 n).symm
theorem Strm.new2 {H : Hp} {s b p : Addr} (h : Strm H s b) (n : H p = none) : p ≠ b := by
  obtain ⟨ns, c, k, h1, h2, h3, h4⟩ := h
  exact (ne_of_none h1 n).symm
theorem ints_no_ref {ns : List Int} {b : Addr} {r : List V} : HO.lst (ns.map V.int) ≠ HO.lst (.ref b :: r) := by
  intro e
  cases ns with
  | nil => injection e with e; cases e
  | cons n ns => injection e with e; injection e with e _; cases e
/-- the two objects of a stream stand apart -/
theorem Strm.ne {H : Hp} {b s : Addr} {ns : List Int} {x : Addr} {r : List V} (h1 : H b = some (.lst (ns.map V.int))) (h2 : H s = some (.lst (.ref x :: r))) : b ≠ s := ne_of h1 h2 ints_no_ref
/-! ## digits -/
theorem fmod_lt {a m : Int} (hm : 0 < m) : a.fmod m < m := by
  rw [Int.fmod_eq_emod_of_nonneg _ (Int.le_of_lt hm)]; exact Int.emod_lt_of_pos _ hm
theorem fmod_ge {a m : Int} (hm : 0 < m) : 0 ≤ a.fmod m := by
  rw [Int.fmod_eq_emod_of_nonneg _ (Int.le_of_lt hm)]; exact Int.emod_nonneg _ (by omega)
theorem div_ge {a m : Int} (ha : 0 ≤ a) (hm : 0 < m) : 0 ≤ a / m := Int.ediv_nonneg ha (Int.le_of_lt hm)
end My
namespace My
open PySem L2
/-! ## two values with the same content, to a depth below n -/
inductive Dq (K : PySem.W.Frag) (H : Hp) : Nat → V → V → Prop where
  | non (n : Nat) : Dq K H (n + 1) .non .non
  | bl (n : Nat) (b : Bool) : Dq K H (n + 1) (.bl b) (.bl b)
  | int (n : Nat) (i : Int) : Dq K H (n + 1) (.int i) (.int i)
  | str (n : Nat) (x : Str) : Dq K H (n + 1) (.str x) (.str x)
  | lst {n : Nat} {a b : Addr} {xs ys : List V} (h1 : SqL K H a xs) (h2 : SqL K H b ys) (hl : xs.length = ys.length) (hz : ys.length ≤ 1000)
      (h : ∀ (i : Nat) u v, xs[i]? = some u → ys[i]? = some v → Dq K H n u v) : Dq K H (n + 1) (.ref a) (.ref b)
  | tup {n : Nat} {a b : Addr} {xs ys : List V} (h1 : SqT K H a xs) (h2 : SqT K H b ys) (hl : xs.length = ys.length) (hz : ys.length ≤ 1000)
      (h : ∀ (i : Nat) u v, xs[i]? = some u → ys[i]? = some v → Dq K H n u v) : Dq K H (n + 1) (.ref a) (.ref b)
theorem Dq.same {K : PySem.W.Frag} {H H' : Hp} (e : Same H H') {n : Nat} {x y : V} (h : Dq K H n x y) : Dq K H' n x y := by
  induction h with
  | non n => exact .non n
  | bl n b => exact .bl n b
  | int n i => exact .int n i
  | str n x => exact .str n x
  | lst h1 h2 hl hz _ ih => exact .lst (e.seq h1) (e.seq h2) hl hz ih
  | tup h1 h2 hl hz _ ih => exact .tup (tSame e h1) (tSame e h2) hl hz ih
theorem get_at {xs : List V} {i : Nat} (h : i < xs.length) : xs[i]? = some xs[i] := List.getElem?_eq_getElem h
end My
namespace My
open PySem L2
section
variable {K : PySem.W.Frag} {H H' : Hp} {a p s : Addr} {xs : List V} {o : HO}
theorem tButS {b : Addr} (e : But s H H') (S : Strm H s b) (h : SqT K H a xs) : SqT K H' a xs := tBut e S.lst h
end
/-- one of the four -/
def Far (f : Int) : Prop := f = 2 ∨ f = 4 ∨ f = 9 ∨ f = 1000
theorem Far.le {f : Int} (h : Far f) : 2 ≤ f ∧ f ≤ 1000 := by unfold Far at h; omega
/-- a point within far -/
def In (f x y : Int) : Prop := -f ≤ x ∧ x ≤ f ∧ -f ≤ y ∧ y ≤ f
theorem In.on {f x y : Int} (h : In f x y) (hf : f ≤ 1000) : On x y := by unfold In at h; unfold On; omega
/-- an item of a list -/
theorem atAny {α : Type} {xs : List α} {i : Int} (h0 : 0 ≤ i) (h1 : i < xs.length) : ∃ v, atI xs i = some v ∧ v ∈ xs := by
  obtain ⟨j, rfl⟩ : ∃ j : Nat, i = j := ⟨i.toNat, by omega⟩
  have h : j < xs.length := by omega
  exact ⟨xs[j], atI_nat (List.getElem?_eq_getElem h), List.getElem_mem h⟩
/-! ## turns -/
theorem turn_cyc (ax ay bx dy cx cy : Int) : turnI bx dy cx cy ax ay = turnI ax ay bx dy cx cy := by unfold turnI; grind
theorem turn_swap (ax ay bx dy cx cy : Int) : turnI bx dy ax ay cx cy = 0 - turnI ax ay bx dy cx cy := by unfold turnI; grind
end My
namespace My
open PySem L2
theorem two_ints {K : PySem.W.Frag} {H : Hp} {x y : Int} : ∀ v ∈ [V.int x, V.int y], ∃ m, Ty K H v m := by
  intro v hv
  rcases List.mem_cons.mp hv with rfl | hv
  · exact ⟨_, .int _⟩
  · rcases List.mem_cons.mp hv with rfl | hv
    · exact ⟨_, .int _⟩
    · cases hv
end My
namespace My
open PySem L2
/-! ## lists of points: each with where it stands -/
abbrev Zp := Addr × Int × Int
/-- what a list of points holds -/
abbrev refs (zs : List Zp) : List V := zs.map fun z => V.ref z.1
def Pts (K : PySem.W.Frag) (H : Hp) (zs : List Zp) : Prop := ∀ z ∈ zs, SqT K H z.1 [.int z.2.1, .int z.2.2]
section
variable {K : PySem.W.Frag} {H H' : Hp} {s b D p : Addr} {zs : List Zp} {z : Zp} {o : HO}
theorem Pts.nil : Pts K H [] := fun _ h => by cases h
theorem Pts.same (e : Same H H') (h : Pts K H zs) : Pts K H' zs := fun z hz => tSame e (h z hz)
theorem Pts.but (e : But s H H') (S : Strm H s b) (h : Pts K H zs) : Pts K H' zs := fun z hz => tButS e S (h z hz)
theorem Pts.over (n : H p = none) (h : Pts K H zs) : Pts K (upd H p o) zs := h.same (same_new n)
theorem Pts.at (n : ∃ ys, H D = some (.lst ys)) (h : Pts K H zs) : Pts K (upd H D o) zs := fun z hz => tAt n (h z hz)
theorem Pts.one (h : SqT K H z.1 [.int z.2.1, .int z.2.2]) : Pts K H [z] := fun y hy => by
  rw [List.mem_singleton] at hy; rw [hy]; exact h
theorem Pts.get (h : Pts K H zs) {i : Nat} (e : zs[i]? = some z) : SqT K H z.1 [.int z.2.1, .int z.2.2] := h z (List.mem_of_getElem? e)
end
theorem three_of {α : Type} {xs : List α} (h : xs.length = 3) : ∃ a b c, xs = [a, b, c] := by
  match xs, h with
  | [a, b, c], _ => exact ⟨a, b, c, rfl⟩
theorem line_of {n : Nat} (h : n ≤ 1000) : n < sizeLine := small1000 h
end My
namespace My
open PySem L2
/-! ## greatest common divisors -/
theorem op_fdivV {X : Cx} : OpR X (binaryOp .FloorDiv) (rI (fun _ j => j ≠ 0 ∧ j.natAbs < 2 ^ 9000) fun i j => .int (i.fdiv j)) := opI fun i j _ _ _ _ _ hc q =>
  PyProof.Rows.floordiv_int hc.1 q (.inl (PyProof.noPylong_of_log2 (by
    by_cases z : j.natAbs = 0
    · rw [z]; decide
    · exact (Nat.log2_lt z).mpr hc.2)))
/-- the state of Euclid's loop behind i turns -/
structure GI (n d M i x y : Nat) : Prop where
  g : Nat.gcd x y = Nat.gcd n d
  hy : y * 2 ^ (i / 2) ≤ M
  hx : x * 2 ^ ((i - 1) / 2) ≤ M
  le : 1 ≤ i → y ≤ x
theorem GI.start {n d M : Nat} (h1 : n ≤ M) (h2 : d ≤ M) : GI n d M 0 n d := ⟨rfl, by simpa using h2, by simpa using h1, fun h => absurd h (by decide)⟩
theorem mod_half {x y : Nat} (h0 : 0 < y) (h : y ≤ x) : 2 * (x % y) ≤ x := by
  have h1 := Nat.mod_lt x h0
  have h2 := Nat.div_add_mod x y
  have h3 : 1 ≤ x / y := (Nat.le_div_iff_mul_le h0).mpr (by omega)
  have h4 : y * 1 ≤ y * (x / y) := Nat.mul_le_mul_left y h3
  omega
theorem GI.step {n d M i x y : Nat} (h : GI n d M i x y) (h0 : 0 < y) : GI n d M (i + 1) y (x % y) := by
  have hm := Nat.mod_lt x h0
  refine ⟨?_, ?_, ?_, fun _ => Nat.le_of_lt hm⟩
  · rw [← h.g, Nat.gcd_comm x y, Nat.gcd_rec y x, Nat.gcd_comm]
  · by_cases hi : 1 ≤ i
    · have e : (i + 1) / 2 = (i - 1) / 2 + 1 := by omega
      rw [e, Nat.pow_succ]
      have h2 := mod_half h0 (h.le hi)
      have h3 : 2 * (x % y) * 2 ^ ((i - 1) / 2) ≤ x * 2 ^ ((i - 1) / 2) := Nat.mul_le_mul_right _ h2
      have h4 := h.hx
      have e2 : x % y * (2 ^ ((i - 1) / 2) * 2) = 2 * (x % y) * 2 ^ ((i - 1) / 2) := by
        rw [Nat.mul_comm (2 ^ ((i - 1) / 2)) 2, ← Nat.mul_assoc, Nat.mul_comm (x % y) 2]
      omega
    · have e : i = 0 := by omega
      subst e
      have h4 : y * 2 ^ (0 / 2) ≤ M := h.hy
      have h5 : y * 2 ^ (0 / 2) = y := Nat.mul_one y
      show x % y * 2 ^ ((0 + 1) / 2) ≤ M
      have e2 : x % y * 2 ^ ((0 + 1) / 2) = x % y := Nat.mul_one _
      omega
  · have e : (i + 1 - 1) / 2 = i / 2 := by omega
    rw [e]
    exact h.hy
theorem GI.done {n d x y k : Nat} (h : GI n d (2 ^ k) 40000 x y) (hk : k < 20000) : y = 0 := by
  rcases Nat.eq_zero_or_pos y with z | z
  · exact z
  · have h1 : y * 2 ^ 20000 ≤ 2 ^ k := h.hy
    have h2 : 1 * 2 ^ 20000 ≤ y * 2 ^ 20000 := Nat.mul_le_mul_right _ z
    have h3 : 2 ^ k < 2 ^ 20000 := Nat.pow_lt_pow_right (by decide) hk
    rw [Nat.one_mul] at h2
    exact absurd (Nat.le_trans h2 h1) (Nat.not_le.mpr h3)
/-- the divisor with the sign of d -/
def sgcd (n d : Int) : Int := if d < 0 then 0 - (Nat.gcd n.natAbs d.natAbs : Int) else (Nat.gcd n.natAbs d.natAbs : Int)
def lowN (n d : Int) : Int := n.fdiv (sgcd n d)
def lowD (n d : Int) : Int := d.fdiv (sgcd n d)
theorem gcd_pos {n d : Int} (h : d ≠ 0) : 0 < Nat.gcd n.natAbs d.natAbs := Nat.gcd_pos_of_pos_right _ (by omega)
theorem sgcd_ne {n d : Int} (h : d ≠ 0) : sgcd n d ≠ 0 := by
  have := gcd_pos (n := n) h
  unfold sgcd
  split <;> omega
theorem sgcd_le {n d : Int} (h : d ≠ 0) : (sgcd n d).natAbs ≤ d.natAbs := by
  have h1 : Nat.gcd n.natAbs d.natAbs ≤ d.natAbs := Nat.le_of_dvd (by omega) (Nat.gcd_dvd_right _ _)
  unfold sgcd
  split <;> omega
/-- what the lowest terms are -/
structure LowOk (n d N D : Int) : Prop where
  mul : ∃ g : Int, g ≠ 0 ∧ n = g * N ∧ d = g * D
  pos : 0 < D
  one : Nat.gcd N.natAbs D.natAbs = 1
theorem fdiv_mul {g x : Int} (h : g ≠ 0) : (g * x).fdiv g = x := by
  rw [Int.fdiv_eq_ediv_of_dvd (Int.dvd_mul_right g x), Int.mul_ediv_cancel_left _ h]
theorem low_ok {n d : Int} (h : d ≠ 0) : LowOk n d (lowN n d) (lowD n d) := by
  have hg := gcd_pos (n := n) h
  have hs := sgcd_ne (n := n) h
  obtain ⟨a, ha⟩ := Nat.gcd_dvd_left n.natAbs d.natAbs
  obtain ⟨b, hb⟩ := Nat.gcd_dvd_right n.natAbs d.natAbs
  have co : Nat.gcd a b = 1 := by
    have e : Nat.gcd (Nat.gcd n.natAbs d.natAbs * a) (Nat.gcd n.natAbs d.natAbs * b) = Nat.gcd n.natAbs d.natAbs * Nat.gcd a b := Nat.gcd_mul_left _ _ _
    rw [← ha, ← hb] at e
    have e' : Nat.gcd n.natAbs d.natAbs * 1 = Nat.gcd n.natAbs d.natAbs * Nat.gcd a b := by rw [Nat.mul_one]; exact e
    exact (Nat.eq_of_mul_eq_mul_left hg e').symm
  -- both as multiples of the divisor
  have dn : sgcd n d ∣ n := by
    have : ((Nat.gcd n.natAbs d.natAbs : Nat) : Int) ∣ n := Int.ofNat_dvd_left.mpr (Nat.gcd_dvd_left _ _)
    unfold sgcd
    split
    · rw [Int.zero_sub]; exact Int.neg_dvd.mpr this
    · exact this
  have dd : sgcd n d ∣ d := by
    have : ((Nat.gcd n.natAbs d.natAbs : Nat) : Int) ∣ d := Int.ofNat_dvd_left.mpr (Nat.gcd_dvd_right _ _)
    unfold sgcd
    split
    · rw [Int.zero_sub]; exact Int.neg_dvd.mpr this
    · exact this
  obtain ⟨N, hN⟩ := dn
  obtain ⟨D, hD⟩ := dd
  have eN : lowN n d = N := by
    unfold lowN
    rw [show n.fdiv (sgcd n d) = (sgcd n d * N).fdiv (sgcd n d) from congrArg (fun z => Int.fdiv z (sgcd n d)) hN]
    exact fdiv_mul hs
  have eD : lowD n d = D := by
    unfold lowD
    rw [show d.fdiv (sgcd n d) = (sgcd n d * D).fdiv (sgcd n d) from congrArg (fun z => Int.fdiv z (sgcd n d)) hD]
    exact fdiv_mul hs
  have sa : (sgcd n d).natAbs = Nat.gcd n.natAbs d.natAbs := by unfold sgcd; split <;> omega
  have aN : N.natAbs = a := by
    have e := congrArg Int.natAbs hN
    rw [Int.natAbs_mul, sa] at e
    exact Nat.eq_of_mul_eq_mul_left hg (e.symm.trans ha)
  have aD : D.natAbs = b := by
    have e := congrArg Int.natAbs hD
    rw [Int.natAbs_mul, sa] at e
    exact Nat.eq_of_mul_eq_mul_left hg (e.symm.trans hb)
  rw [eN, eD]
  refine ⟨⟨_, hs, hN, hD⟩, ?_, by rw [aN, aD]; exact co⟩
  -- the sign
  have sg : (d < 0 → sgcd n d < 0) ∧ (0 ≤ d → 0 < sgcd n d) := by unfold sgcd; split <;> omega
  by_cases hd : d < 0
  · have s1 := sg.1 hd
    by_cases hp : 0 < D
    · exact hp
    · exfalso
      have : 0 ≤ sgcd n d * D := Int.mul_nonneg_of_nonpos_of_nonpos (by omega) (by omega)
      omega
  · have s1 := sg.2 (by omega)
    by_cases hp : 0 < D
    · exact hp
    · exfalso
      have : sgcd n d * D ≤ 0 := Int.mul_nonpos_of_nonneg_of_nonpos (by omega) (by omega)
      omega
theorem LowOk.leN {n d N D : Int} (h : LowOk n d N D) : N.natAbs ≤ n.natAbs := by
  obtain ⟨⟨g, hg, h1, _⟩, _, _⟩ := h
  rw [h1, Int.natAbs_mul]
  exact Nat.le_mul_of_pos_left _ (by omega)
theorem LowOk.leD {n d N D : Int} (h : LowOk n d N D) : D.natAbs ≤ d.natAbs := by
  obtain ⟨⟨g, hg, _, h1⟩, _, _⟩ := h
  rw [h1, Int.natAbs_mul]
  exact Nat.le_mul_of_pos_left _ (by omega)
/-! ## fractions as values -/
def fracB : List V → Bool
  | [.int n, .int d] => decide (1 ≤ d) && (Nat.gcd n.natAbs d.natAbs == 1)
  | _ => false
/-- x is a value of which is_fraction is b -/
def FV (K : PySem.W.Frag) (H : Hp) (x : V) (b : Bool) : Prop := ∃ n, Ty K H x n ∧ (n = "tuple" → ∃ a xs, x = .ref a ∧ SqT K H a xs ∧ (∀ v ∈ xs, ∃ m, Ty K H v m) ∧ b = fracB xs) ∧ (n ≠ "tuple" → b = false)
theorem Ty.same {K : PySem.W.Frag} {H H' : Hp} (e : Same H H') {v : V} {n : String} (h : Ty K H v n) : Ty K H' v n := by
  cases h with
  | non => exact .non
  | bl b => exact .bl b
  | int i => exact .int i
  | str x => exact .str x
  | tup h => exact .tup (tSame e h)
  | lst h => exact .lst (e.seq h)
theorem FV.same {K : PySem.W.Frag} {H H' : Hp} (e : Same H H') {x : V} {b : Bool} (h : FV K H x b) : FV K H' x b := by
  obtain ⟨n, t, h1, h2⟩ := h
  refine ⟨n, t.same e, fun q => ?_, h2⟩
  obtain ⟨a, xs, e1, e2, e3, e4⟩ := h1 q
  exact ⟨a, xs, e1, tSame e e2, fun v hv => by obtain ⟨m, hm⟩ := e3 v hv; exact ⟨m, hm.same e⟩, e4⟩
theorem FV.tup {K : PySem.W.Frag} {H : Hp} {a : Addr} {xs : List V} (h : SqT K H a xs) (hm : ∀ v ∈ xs, ∃ m, Ty K H v m) : FV K H (.ref a) (fracB xs) :=
  ⟨"tuple", .tup h, fun _ => ⟨a, xs, rfl, h, hm, rfl⟩, fun q => absurd rfl q⟩
theorem FV.ok {K : PySem.W.Frag} {H : Hp} {a : Addr} {n d : Int} (h : SqT K H a [.int n, .int d]) (h1 : 0 < d) (h2 : Nat.gcd n.natAbs d.natAbs = 1) : FV K H (.ref a) true := by
  have e : fracB [.int n, .int d] = true := by
    show (decide (1 ≤ d) && (Nat.gcd n.natAbs d.natAbs == 1)) = true
    rw [h2, decide_eq_true (show 1 ≤ d by omega)]
    rfl
  rw [← e]
  exact FV.tup h two_ints
end My
namespace My
open PySem L2
/-- an error of the class at C with this name is raised -/
def Rz (C : Addr) (x : V) (H : Hp) (E : XK) : Prop := ∀ d, H d = none → E (.ref C) (some d) (upd H d (.xd [(("name" : Str), x)]))
theorem pow200 {i : Int} (h : i.natAbs ≤ 2 ^ 200) : i.natAbs < 2 ^ 9000 := Nat.lt_of_le_of_lt h (Nat.pow_lt_pow_right (by decide) (by decide))
end My
namespace My
open PySem L2
theorem fracB_ne {xs : List V} (h : xs.length ≠ 2) : fracB xs = false := by
  unfold fracB
  split
  · exact absurd rfl h
  · rfl
end My
namespace My
open PySem L2
/-! ## fractions at an address -/
structure FrAt (K : PySem.W.Frag) (H : Hp) (a : Addr) (n d : Int) : Prop where
  at_ : SqT K H a [.int n, .int d]
  pos : 0 < d
  one : Nat.gcd n.natAbs d.natAbs = 1
  bn : n.natAbs ≤ 2 ^ 67
  bd : d.natAbs ≤ 2 ^ 50
section
variable {K : PySem.W.Frag} {H H' : Hp} {s b p a c D : Addr} {n d m e : Int} {o : HO}
theorem FrAt.same (e : Same H H') (h : FrAt K H a n d) : FrAt K H' a n d := { h with at_ := tSame e h.at_ }
theorem FrAt.but (e : But s H H') (S : Strm H s b) (h : FrAt K H a n d) : FrAt K H' a n d := { h with at_ := tButS e S h.at_ }
theorem FrAt.over (q : H p = none) (h : FrAt K H a n d) : FrAt K (upd H p o) a n d := h.same (same_new q)
theorem FrAt.put (q : ∃ ys, H D = some (.lst ys)) (h : FrAt K H a n d) : FrAt K (upd H D o) a n d := { h with at_ := tAt q h.at_ }
theorem FrAt.fv (h : FrAt K H a n d) : FV K H (.ref a) true := FV.ok h.at_ h.pos h.one
theorem wide {i j : Int} {x y : Nat} (hi : i.natAbs ≤ 2 ^ x) (hj : j.natAbs ≤ 2 ^ y) (h : x + y + 2 ≤ 1000000 := by decide) : CMulW i j :=
  wide_mul (a := x + 1) (b := y + 1) (Nat.lt_of_le_of_lt hi (Nat.pow_lt_pow_right (by decide) (by omega))) (Nat.lt_of_le_of_lt hj (Nat.pow_lt_pow_right (by decide) (by omega))) (by omega) (by omega) (by omega)
theorem mul_le {i j : Int} {x y : Nat} (hi : i.natAbs ≤ 2 ^ x) (hj : j.natAbs ≤ 2 ^ y) : (i * j).natAbs ≤ 2 ^ (x + y) := by
  rw [Int.natAbs_mul, Nat.pow_add]; exact Nat.mul_le_mul hi hj
theorem pow_up {i : Int} {x y : Nat} (h : i.natAbs ≤ 2 ^ x) (hy : x ≤ y := by decide) : i.natAbs ≤ 2 ^ y := Nat.le_trans h (Nat.pow_le_pow_right (by decide) hy)
theorem add_le {i j : Int} {x : Nat} (hi : i.natAbs ≤ 2 ^ x) (hj : j.natAbs ≤ 2 ^ x) : (i + j).natAbs ≤ 2 ^ (x + 1) := by
  have := Int.natAbs_add_le i j
  rw [Nat.pow_succ]; omega
theorem sub_le {i j : Int} {x : Nat} (hi : i.natAbs ≤ 2 ^ x) (hj : j.natAbs ≤ 2 ^ x) : (i - j).natAbs ≤ 2 ^ (x + 1) := by
  have := Int.natAbs_sub_le i j
  rw [Nat.pow_succ]; omega
theorem mul_ne {i j : Int} (hi : 0 < i) (hj : 0 < j) : i * j ≠ 0 := by
  have := Int.mul_pos hi hj; omega
end
/-! ## what a try of the law tells -/
abbrev Rs := (Int × Int) ⊕ Str ⊕ Bool
def TV (K : PySem.W.Frag) (H : Hp) (v : V) : Rs → Prop
  | .inl (a, b) => ∃ p, v = .ref p ∧ SqT K H p [.int a, .int b]
  | .inr (.inl s) => ∃ p, v = .ref p ∧ SqL K H p [.str "refused", .str s]
  | .inr (.inr b) => v = .bl b
theorem TV.same {K : PySem.W.Frag} {H H' : Hp} (e : Same H H') {v : V} {r : Rs} (h : TV K H v r) : TV K H' v r := by
  match r, h with
  | .inl (a, b), ⟨p, e1, h⟩ => exact ⟨p, e1, tSame e h⟩
  | .inr (.inl s), ⟨p, e1, h⟩ => exact ⟨p, e1, e.seq h⟩
  | .inr (.inr b), h => exact h
theorem lAt {K : PySem.W.Frag} {H : Hp} {a D : Addr} {xs : List V} {o : HO} (n : a ≠ D) (h : SqL K H a xs) : SqL K (upd H D o) a xs := by
  rcases h with (h | ⟨o, h⟩) | h
  · exact .inl (.inl (by rw [upd_ne n]; exact h))
  · exact .inl (.inr ⟨o, by rw [upd_ne n]; exact h⟩)
  · exact .inr h
theorem TV.put {K : PySem.W.Frag} {H : Hp} {D : Addr} {o : HO} (q : ∃ ys, H D = some (.lst ys)) {v : V} {r : Rs} (n : v ≠ .ref D) (h : TV K H v r) : TV K (upd H D o) v r := by
  match r, h with
  | .inl (a, b), ⟨p, e1, h⟩ => exact ⟨p, e1, tAt q h⟩
  | .inr (.inl s), ⟨p, e1, h⟩ => exact ⟨p, e1, lAt (fun z => n (by rw [e1, z])) h⟩
  | .inr (.inr b), h => exact h
end My
namespace PySem
namespace BvX
open PySem.W PySem.Calls PyProof.Rows PySem.HandSPX
/-! ### the text of __init__ -/
def iA (p1 p2 : Pos) : Arguments := { posonlyargs := [], args := [{ arg := "self", annotation := none, pos := p1 }, { arg := "name", annotation := none, pos := p2 }], vararg := none, kwonlyargs := [], kw_defaults := [], kwarg := none, defaults := [] }
def iB (q1 q2 q3 q4 : Pos) : List Stmt := [.Assign [.Attribute (.Name "self" q1) "name" q2] (.Name "name" q3) q4]
def iS : Scope := { kind := .function, names := [(PySem.Str.ofString "self", .local), (PySem.Str.ofString "name", .local)], isGenerator := false, isCoroutine := false, more := [] }
/-- what the written part says of Low, at C, and of its __init__, at fI -/
structure BvTxt (K : Frag) (mg : Str → Option Value) (C fI : Addr) : Prop where
  gC : mg "BadValue" = some (.ref C)
  cls : ∃ nm q N bs bm sn sub ab col dd k0 k1 k2 k3 k5, K.lookup C = some (excClassObj nm q C N bs bm true sn sub ab col dd k0 k1 k2 k3 k5 "ValueError.__new__") ∧ refsVE bm = true
  sa : findIn K (.ref C) "__setattr__" = some (some (.builtin "object.__setattr__"))
  ga : findIn K (.ref C) "__getattribute__" = some (some (.builtin "BaseException.__getattribute__"))
  gg : findIn K (.ref C) "__getattr__" = some none
  noN : findIn K (.ref C) "name" = some none
  iC : findIn K (.ref C) "__init__" = some (some (.ref fI))
  tC : typeIn K (.ref fI) = some (.type "function")
  kC : keepIn K (.ref C) = true
  exC : subIn K (.ref C) (.type "BaseException") = some true
  tyC : typeIn K (.ref C) = some (.type "type")
  hdC : hasDictIn K C = true
  te : exmOne K (.ref C) (.ref C) = some true
  fn : ∃ (oc : Value) (od : Option Addr) (doc pm : Value) (an : Option Addr) (cdv ct : Value) (osl : Array (Option Value)) (p1 p2 q1 q2 q3 q4 : Pos),
    K.lookup fI = some ⟨oc, od, .func (fnOf "__init__" "BadValue.__init__" (iA p1 p2) (iB q1 q2 q3 q4) iS .none .none doc pm an cdv ct), osl⟩ ∧ codeIn K cdv "BadValue.__init__" = true
theorem one_size (v : Value) : [v].length ≤ sizeLine := by
  rw [sizeLine_eq]
  exact (by decide : 1 ≤ 16777216)
theorem ldC {M : Model} {s : Shared} {name : Str} {scope : Scope} {L a : Addr} {cd : Value} {m : Str → Option Value} {x : Str} {pos : Pos} {v : Value} {Q : Value → Shared → Prop} {A : Around} {E : Value → Shared → Prop} (hn : s.heap.Ns L m) (hv : m x = some v) (h : Q v s)
    (hk : scope.kind = .function := by rfl) (hl : (envOfC name scope L a cd).kindOf x = some .local := by rfl) (hd : (x == ("__debug__" : Str)) = false := by decide) :
    wpAny M A (eval (.Name x pos) (envOfC name scope L a cd)) Q E s := wpAny_Name (wpAny_loadName_local hk hl hn hv h) hd
/-- what __init__ leaves of a fresh exception at x -/
structure InitEnd (h h' : Heap) (x C dx t1 : Addr) (v : Value) : Prop where
  keep : ∀ b o, b ≠ x → h.get? b = some o → h'.get? b = some o
  obj : h'.get? x = some { cls := .ref C, dict := some dx, data := .fields #[.ref t1, .none, .none, .none, .bool false, .none] }
  dbig : h.objs.size ≤ dx
  dne : dx ≠ x
  ns : h'.Ns1 dx (fun y => if y = "name" then some v else none)
/-- a made Low -/
structure OwnMade (h h' : Heap) (e C d : Addr) (v : Value) : Prop where
  keep : ∀ b o, h.get? b = some o → h'.get? b = some o
  new : h.objs.size ≤ e
  obj : ∃ oe vs, h'.get? e = some oe ∧ oe.cls = .ref C ∧ oe.dict = some d ∧ oe.data = .fields vs ∧ vs[1]? = some .none
  dbig : h.objs.size ≤ d
  dne : d ≠ e
  ns : h'.Ns1 d (fun y => if y = "name" then some v else none)
section
variable {prog : Program} {w : World} {A : Around} {E : Value → Shared → Prop} {R : Result → Shared → Prop} {s : Shared} {K : Frag} {mg : Str → Option Value} {C fI : Addr}
theorem bv_init (T : BvTxt K mg C fI) {x t0 : Addr} {v : Value} (X : K.In s.heap) (hlim : s.heap.NoLimit) (hx : s.heap.get? x = some (excO C t0)) (hnx : K.lookup x = none) (hroom : A.depth < recursionLimit)
    (hq : ∀ h' tk dx, InitEnd s.heap h' x C dx t0 v → R (.ok (.ret .none)) { s with heap := h', toks := tk }) :
    codeAny (model prog w) A (.call (.ref fI) ⟨[.ref x, v], []⟩) R s := by
  obtain ⟨oc, od, doc, pm, an, cdv, ct, osl, p1, p2, q1, q2, q3, q4, ho, hcd⟩ := T.fn
  obtain ⟨nm, q, N, bs, bm, sn, sub, ab, col, dd, k0, k1, k2, k3, k5, hC, hbm⟩ := T.cls
  have hcl : clsIn K C = some { name := nm, bases := bs, mro := .ref C :: bm, ns := N, qualname := q, hasDict := true, slotNames := sn, subclasses := sub, abstract := ab, collection := col, hasDel := false } := by unfold clsIn; rw [hC] <;> rfl
  refine Att.call_fn (binds := [("self", .ref x), ("name", v)]) X hlim ho hcd hroom (BindsTo.of_eq (by first | rfl | with_unfolding_all rfl)) (by first | rfl | decide | with_unfolding_all rfl) (fun s₁ IC => ?_) rfl rfl rfl
  obtain ⟨h₁, tk₁, rfl⟩ := IC.toInCall.same
  have k : ∀ b o, s.heap.get? b = some o → h₁.get? b = some o := IC.toInCall.keep
  have hn := IC.toInCall.ns
  have hxL : s.heap.objs.size ≠ x := Nat.ne_of_gt (Heap.lt_size hx)
  have X₁ : K.In h₁ := X.keeps k
  have hx₁ := k _ _ hx
  -- self.by = by
  show wpAny _ _ (execs _ _) _ _ _
  refine wpAny_execs_cons (plainObj_wpAny_Assign_Attribute ?_)
  refine ldC (v := v) hn (by first | rfl | with_unfolding_all rfl | kernel_rfl) (ldC (v := .ref x) hn (by first | rfl | with_unfolding_all rfl | kernel_rfl) ?_)
  refine set_plain X₁ (ox := excO C t0) (od := none) ⟨hx₁, rfl, rfl, trivial⟩ T.sa ?_
  refine exc_osa X₁ hx₁ hcl (show refsVE (.ref C :: bm) = true from hbm) rfl T.noN (fun h₃ tk₃ dx k₃ dn dne hx₃ hn₃ => ?_)
  show wpAny _ _ (execs _ _) _ _ _
  have z : s.heap.objs.size < h₁.objs.size := hn.lt
  exact wpAny_execs_nil (hq h₃ tk₃ dx ⟨fun b o hb e => k₃ b o hb (k b o e), hx₃, Nat.le_of_lt (Nat.lt_of_lt_of_le z dn), dne, hn₃⟩)
theorem bv_made (T : BvTxt K mg C fI) {v : Value} (X : K.In s.heap) (hlim : s.heap.NoLimit) (hroom : A.depth + 1 < recursionLimit)
    (hq : ∀ h' tk e d, OwnMade s.heap h' e C d v → R (.ok (.ret (.ref e))) { s with heap := h', toks := tk }) :
    codeAny (model prog w) A (.call (.ref C) ⟨[v], []⟩) R s := by
  obtain ⟨nm, q, N, bs, bm, sn, sub, ab, col, dd, k0, k1, k2, k3, k5, hC, hbm⟩ := T.cls
  obtain ⟨hp, g, dr, tk, os⟩ := s
  have k : ∀ b o, hp.get? b = some o → ((hp.push (kdv_tup [v])).push (excO C hp.objs.size)).get? b = some o := fun b o e => Heap.get?_push_of_some _ (Heap.get?_push_of_some _ e)
  have hget : ((hp.push (kdv_tup [v])).push (excO C hp.objs.size)).get? (hp.objs.size + 1) = some (excO C hp.objs.size) := by heap_get
  have hnx : K.lookup (hp.objs.size + 1) = none := by
    cases e : K.lookup (hp.objs.size + 1) with
    | none => rfl
    | some o =>
      have z : hp.get? (hp.objs.size + 1) = some o := X _ _ e
      exact absurd (Nat.lt_of_succ_lt (Heap.lt_size z)) (Nat.lt_irrefl _)
  refine call_own F.excBase_ValueError (fun X => refsVE_contains X bm hbm) (X _ _ hC) (looks_findIn X T.iC) (fun self => bind_fn X self T.tC) (one_size v) ?_
  refine bv_init (s := ⟨(hp.push (kdv_tup [v])).push (excO C hp.objs.size), g, dr, tk, os⟩) T (X.keeps k) (hlim.keeps k) hget hnx ?_ fun h' tk' dx ⟨k', hx, dn, dne, hns⟩ => ?_
  · show A.depth + 1 < recursionLimit
    exact hroom
  · have old : ∀ b o, hp.get? b = some o → h'.get? b = some o := fun b o e => k' b o (Nat.ne_of_lt (Nat.lt_succ_of_lt (Heap.lt_size e))) (k b o e)
    have z : hp.objs.size + 1 + 1 ≤ dx := by
      first
        | (simpa only [Heap.size_push] using dn)
        | exact dn
        | (have q := dn; rw [Heap.size_push, Heap.size_push] at q; exact q)
    exact ⟨rfl, hq h' tk' (hp.objs.size + 1) dx ⟨old, Nat.le_succ _, ⟨_, _, hx, rfl, rfl, rfl, rfl⟩, Nat.le_trans (Nat.le_trans (Nat.le_succ _) (Nat.le_succ _)) z, dne, hns⟩⟩
end
end BvX
end PySem
namespace L2
open PySem PySem.Spec PyProof.Rows
theorem relO_bv {v : V} {v' : Value} (r : RelV v v') (f : Str) : RelO (List.lookup f [(("name" : Str), v)]) (if f = "name" then some v' else none) := by
  by_cases hw : f = "name"
  · subst hw
    rw [if_pos rfl]
    have q : List.lookup ("name" : Str) [(("name" : Str), v)] = some v := by simp [List.lookup]
    rw [q]
    exact r
  · rw [if_neg hw]
    have qw : (f == ("name" : Str)) = false := by simpa using hw
    have q2 : List.lookup f [(("name" : Str), v)] = none := by simp [List.lookup, qw]
    rw [q2]
    trivial
section
variable {X : Cx} {C fI : Addr}
/-- Low(e) -/
def tMkBv (C : Addr) (ta : TA) : St → Hp → XK → Prop := fun σ H Q => ta σ H fun vs H1 => ∃ v, vs = [v] ∧ ∀ d, H1 d = none → Q (.ref C) (some d) (upd H1 d (.xd [(("name" : Str), v)]))
theorem pmk_bv {a : Expr} {ta : TA} {p pos : Pos} {k : Nat} (T : PySem.BvX.BvTxt X.K X.mg C fI) (hr : Room k X.A) (ha : PA X [a] ta) (hg : Gl X "BadValue" := by rfl)
    (he : starEach (a :: []) X.env = (false, eval a X.env) :: starEach [] X.env := by rfl) (hpl : (backTo pos (starEach [] X.env)).any (·.1) = false := by rfl) :
    PMk X (.Call (.Name "BadValue" p) [a] [] pos) (tMkBv C ta) := by
  intro pins s σ H Q I h
  refine wpAny_Call_Name_kw (ld_glob I hg T.gC ?_)
  refine PySem.W.callWith_K (h₀ := X.base) I.ok.mod.kin T.kC (thn (ha.run pos pins s σ H _ I h) fun us s1 hh => ?_) he hpl
  obtain ⟨vs, H1, I1, r1, v, ev, q1⟩ := hh
  subst ev
  refine ⟨I1.kIn, ?_⟩
  cases r1 with
  | cons rv rn =>
    rename_i v' us'
    cases rn
    show wpAny _ _ (call (.ref C) [v']) _ _ _
    have hlim := I1.nolimit
    obtain ⟨hp, g, dr, tk, os⟩ := s1
    refine wpAny_call (PySem.BvX.bv_made T I1.kIn hlim (by have := hr.dp; omega) fun h' tk' e d M => ?_)
    show MkP X pins σ Q (.ref e) ⟨h', g, dr, tk', os⟩
    obtain ⟨oe, fv, hoe, hc, hd, hdat, h1⟩ := M.obj
    have hns := M.ns
    obtain ⟨G', g1, g2⟩ := restrict h' fun b => decide (b ≠ e)
    have gk : ∀ b, b ≠ e → G'.get? b = h'.get? b := fun b hb => g1 b (decide_eq_true hb)
    have ge : G'.get? e = none := g2 e (by simp)
    have old : ∀ b o, hp.get? b = some o → G'.get? b = some o := fun b o q => (gk b (Nat.ne_of_lt (Nat.lt_of_lt_of_le (Heap.lt_size q) M.new))).trans (M.keep b o q)
    have ob : ObjOk X.prog X.w (upd H1 d (.xd [(("name" : Str), v)])) G' d (.xd [(("name" : Str), v)]) :=
      ⟨_, hns.at (fun o q => (gk d M.dne).trans q), fun f => relO_bv rv f⟩
    have J : Inv X pins σ (upd H1 d (.xd [(("name" : Str), v)])) ⟨G', g, dr, tk', os⟩ := I1.laid (t' := tk') old M.dbig ob
    refine ⟨e, oe, fv, ⟨G', g, dr, tk', os⟩, _, .ref C, some d, rfl, J, fun b o q => ?_, ge, hoe, ⟨hc, hd⟩, hdat, h1, ?_, rfl, I1.bare, raises_own T.exC T.tyC, q1 d (I1.hok.fresh M.dbig)⟩
    · by_cases hb : b = e
      · have q' : G'.get? b = some o := q
        rw [hb, ge] at q'; cases q'
      · exact (gk b hb).symm.trans q
    · rw [upd_ne (Ne.symm M.dne)]
      exact I1.hok.fresh M.new
/-- raise Low(e) -/
def tRaiseBv (C : Addr) (W : WX) (ta : TA) : TS := fun _ σ H => tMkBv C ta σ H fun cls d H' => W cls d σ H'
theorem ps_raiseBV {a : Expr} {ta : TA} {W : WX} {p pos pos2 : Pos} {k : Nat} (hc : X.calm = true) (T : PySem.BvX.BvTxt X.K X.mg C fI) (hr : Room k X.A) (tk : Takes X W) (ha : PA X [a] ta) (hg : Gl X "BadValue" := by rfl)
    (he : starEach (a :: []) X.env = (false, eval a X.env) :: starEach [] X.env := by rfl) (hpl : (backTo pos (starEach [] X.env)).any (·.1) = false := by rfl) :
    PS X (.Raise (some (.Call (.Name "BadValue" p) [a] [] pos)) none pos2) (tRaiseBv C W ta) := ps_raise hc tk (pmk_bv T hr ha hg he hpl)
/-- low.by, low the exception that the suite holds (at a; its class cls, its dict d) -/
def tByBv (C : Addr) (a : Addr) (cls : Value) (d : Option Addr) (te : TE) : TE := fun σ H Q => te σ H fun x H1 => x = .ref a ∧ cls = .ref C ∧ ∃ (dd : Addr) (v : V), d = some dd ∧ H1 dd = some (.xd [(("name" : Str), v)]) ∧ Q v H1
theorem pe_byBv {a : Addr} {oe : Obj} {cls : Value} {d : Option Addr} {pn : List (Addr × Obj)} {e : Expr} {te : TE} {pos : Pos} (T : PySem.BvX.BvTxt X.K X.mg C fI) (hz : Zc cls d oe) (hf : ∃ vs, oe.data = .fields vs) (he : PE (X.suite a ((a, oe) :: pn)) e te)
    (hb : attributeBase e "name" X.env (eval e X.env) = eval e X.env := by rfl) :
    PE (X.suite a ((a, oe) :: pn)) (.Attribute e "name" pos) (tByBv C a cls d te) := by
  refine ⟨fun pins s σ H Q I h => ?_⟩
  refine attr_of hb (thn (he.run pins s σ H _ I h) fun u s1 hh => ?_)
  obtain ⟨x, H1, I1, rx, ex, ec, dd, v, ed, ea, q⟩ := hh
  subst ex
  obtain rfl : u = Value.ref a := rx
  subst ec
  subst ed
  obtain ⟨ha, _⟩ := I1.pin (a, oe) (List.mem_append_left _ List.mem_cons_self)
  obtain ⟨vs, hd⟩ := hf
  have hx : ObjOk X.prog X.w H1 s1.heap dd (.xd [(("name" : Str), v)]) := I1.hok dd _ ea
  obtain ⟨mA, hns, hr⟩ := hx
  obtain ⟨od, ho, hl⟩ := lookIn_ns hns
  have l : List.lookup ("name" : Str) [(("name" : Str), v)] = some v := by simp [List.lookup]
  obtain ⟨u, hu, ru⟩ := RelO.some_of (v := v) (o := mA "name") (by rw [← l]; exact hr "name")
  have J : PySem.W.InstAt s1.heap a oe C (some od) := ⟨ha, hz.1, by unfold PySem.W.notCls; rw [hd] <;> rfl, by rw [hz.2]; exact ho⟩
  exact HandSPX.exc_get I1.kIn J T.ga T.gg T.exC (PySem.W.findObj_own T.hdC T.noN rfl (by rw [hl, hu])) (handed_of ru) ⟨v, H1, I1.tok _, ru, q⟩
end
end L2
namespace L2
open PySem PySem.Spec PyProof.Rows
end L2
namespace My
open PySem L2
/-- an error of the class at S is what «except S» names -/
theorem exm_self {K : PySem.W.Frag} {S : Addr} (h1 : PySem.W.subIn K (.ref S) (.type "BaseException") = some true) (h2 : PySem.W.isClsIn K S = true) (h3 : PySem.W.typeIn K (.ref S) = some (.type "type")) (h4 : PySem.W.subIn K (.ref S) (.ref S) = some true) :
    PySem.W.exmOne K (.ref S) (.ref S) = some true := by
  have e1 : (PySem.W.subIn K (.ref S) (.type "BaseException") == some true) = true := by rw [h1] <;> rfl
  have e2 : ((PySem.W.clsIn K S).isSome && PySem.W.typeIn K (.ref S) == some (.type "type")) = true := by
    have h2' : (PySem.W.clsIn K S).isSome = true := h2
    rw [h2', h3] <;> rfl
  show (if (PySem.W.subIn K (.ref S) (.type "BaseException") == some true) = true then (if ((PySem.W.clsIn K S).isSome && PySem.W.typeIn K (.ref S) == some (.type "type")) = true then PySem.W.subIn K (.ref S) (.ref S) else none) else none) = some true
  rw [if_pos e1, if_pos e2]
  exact h4
end My
namespace L2
open PySem PySem.Spec PyProof.Rows
end L2
namespace PySem
namespace Gx
open PySem.W PySem.Calls PyProof.Rows
section
variable {prog : Program} {w : World} {A : Around} {R : Result → Shared → Prop} {I : Addr}
/-- all's loop: m bounds the turns that are left -/
theorem all_loop (W : Nat → Shared → Prop) (step : ∀ m s, W m s → wpAny (model prog w) A.in1 (pyNext (.ref I)) (fun r s' => match r with
    | none => R (.ok (.ret (.bool true))) s'
    | some v => ∃ b, v = .bool b ∧ if b = true then ∃ m', m' < m ∧ W m' s' else R (.ok (.ret (.bool false))) s') (fun e s' => R (.error e) s') s) :
    ∀ (m : Nat) (s : Shared), W m s → codeAny (model prog w) A (.builtin "all.loop" ⟨[.ref I], []⟩) R s := by
  intro m
  induction m using Nat.strongRecOn with
  | ind m ih =>
    intro s hW
    refine codeAny_builtin F.entry_all_loop ?_
    rw [Around.under_plainId F.plain_all_loop _]
    show wpAny _ A.in1 (pyNext (.ref I) >>= _) _ _ s
    refine wpAny_bind (wpAny_mono (step m s hW) (fun r s' h => ?_) fun _ _ e => e)
    cases r with
    | none => exact wpAny_bind (wpAny_rule (wpAny_pure h))
    | some v =>
      obtain ⟨b, rfl, h⟩ := h
      refine wpAny_bind (wpAny_holding (wpAny_truthy_bool ?_))
      refine wpAny_bind (wpAny_letGo ?_)
      cases b with
      | true =>
        simp only [if_true] at h ⊢
        obtain ⟨m', hm, hW'⟩ := h
        exact wpAny_pure ⟨plainId_quiet F.plain_all_loop _, ih m' hm s' hW'⟩
      | false =>
        simp only [Bool.false_eq_true, if_false] at h ⊢
        exact wpAny_bind (wpAny_rule (wpAny_pure h))
theorem any_loop (W : Nat → Shared → Prop) (step : ∀ m s, W m s → wpAny (model prog w) A.in1 (pyNext (.ref I)) (fun r s' => match r with
    | none => R (.ok (.ret (.bool false))) s'
    | some v => ∃ b, v = .bool b ∧ if b = true then R (.ok (.ret (.bool true))) s' else ∃ m', m' < m ∧ W m' s') (fun e s' => R (.error e) s') s) :
    ∀ (m : Nat) (s : Shared), W m s → codeAny (model prog w) A (.builtin "any.loop" ⟨[.ref I], []⟩) R s := by
  intro m
  induction m using Nat.strongRecOn with
  | ind m ih =>
    intro s hW
    refine codeAny_builtin F.entry_any_loop ?_
    rw [Around.under_plainId F.plain_any_loop _]
    show wpAny _ A.in1 (pyNext (.ref I) >>= _) _ _ s
    refine wpAny_bind (wpAny_mono (step m s hW) (fun r s' h => ?_) fun _ _ e => e)
    cases r with
    | none => exact wpAny_bind (wpAny_rule (wpAny_pure h))
    | some v =>
      obtain ⟨b, rfl, h⟩ := h
      refine wpAny_bind (wpAny_holding (wpAny_truthy_bool ?_))
      refine wpAny_bind (wpAny_letGo ?_)
      cases b with
      | true =>
        simp only [if_true] at h ⊢
        exact wpAny_bind (wpAny_rule (wpAny_pure h))
      | false =>
        simp only [Bool.false_eq_true, if_false] at h ⊢
        obtain ⟨m', hm, hW'⟩ := h
        exact wpAny_pure ⟨plainId_quiet F.plain_any_loop _, ih m' hm s' hW'⟩
end
/-! ### the generator's side -/
/-- while the generator sleeps: the heap stands, the table of generators stays bare -/
structure Sl (s s' : Shared) : Prop where
  os : s'.os = s.os
  bare : AllBare s'.gens
  heap : s'.heap = s.heap
/-- a value is handed out: C of it; then on, if it is one that lets the consumer go on -/
def Yx (Sr : Value → Shared → Shared → Prop) (C : Shared → Value → Shared → Prop) (Go : Value → Prop) : Protocol := fun _ s₀ v s kap => C s₀ v s ∧ (Go v → ∀ s', Sr v s s' → kap (.send .none) s')
def Rx (Dn : Shared → Shared → Prop) : GenEnd := fun _ s₀ r s => r = .ok .next ∧ Dn s₀ s
section
variable {prog : Program} {w : World} {A : Around}
theorem seg_loop {elt tg iter : Expr} {ifs : List Expr} {scope : Scope} {pos : Pos} {I : Addr} {cenv : Env} {Sr : Value → Shared → Shared → Prop} {C : Shared → Value → Shared → Prop} {Go : Value → Prop} {Dn : Shared → Shared → Prop} {B : Around}
    (hB : A.over (.compLoop (.GeneratorExp elt [⟨tg, iter, ifs, 0⟩] scope pos) 0 (.ref I) .none cenv) [] = B) (hco : cenv.scope.isCoroutine = false) (W : Nat → Shared → Shared → Prop)
    (turn : ∀ m s₀ s, W m s₀ s → wpAny (model prog w) B (pyNext (.ref I)) (fun r s1 => match r with
      | none => Dn s₀ s1
      | some v => wpAny (model prog w) B (letOwnedTupleGo tg (.ref I) v) (fun _ s1' => wpAny (model prog w) B (assign tg cenv v) (fun _ s2 => wpAny (model prog w) B (forIn ifs true fun c r => if r = true then do let ok ← isTrue c cenv (eval c cenv); pure (ForInStep.yield ok) else pure (ForInStep.yield r)) (fun ok s3 =>
          if ok = true then wpAny (model prog w) B (eval elt cenv) (fun y s4 => C s₀ y s4 ∧ (Go y → ∃ m', m' < m ∧ ∀ s', Sr y s4 s' → W m' s' s')) (fun _ _ => False) s3 else ∃ m', m' < m ∧ W m' s₀ s3) (fun _ _ => False) s2) (fun _ _ => False) s1') (fun _ _ => False) s1) (fun _ _ => False) s) :
    ∀ (m n : Nat) (s₀ s : Shared), m < n → W m s₀ s → Seg (model prog w) A (Rx Dn) (Yx Sr C Go) n s₀
      (.compLoop (.GeneratorExp elt [⟨tg, iter, ifs, 0⟩] scope pos) 0 (.ref I) .none cenv)
      ((model prog w).den (.compLoop (.GeneratorExp elt [⟨tg, iter, ifs, 0⟩] scope pos) 0 (.ref I) .none cenv)) [] s := by
  subst hB
  intro m
  induction m using Nat.strongRecOn with
  | ind m ih =>
    intro n s₀ s hn hW
    show Seg _ A _ _ _ s₀ _ ((compTurn (.GeneratorExp elt [⟨tg, iter, ifs, 0⟩] scope pos) 0 (.ref I) .none cenv).onRaise (leaving cenv)) [] s
    rw [compTurn_gen, Sem.onRaise_eq_wrap]
    refine seg_bind_wrap (wpAny_standAt ?_)
    refine seg_bind_wrap (wpAny_mono (turn m s₀ s hW) (fun r s1 h => ?_) fun _ _ e => e.elim)
    cases r with
    | none => exact seg_end (.ok .next) ⟨rfl, h⟩
    | some v =>
      refine seg_bind_wrap (wpAny_mono h (fun _ s1' h => ?_) fun _ _ e => e.elim)
      refine seg_bind_wrap (wpAny_mono h (fun _ s2 h => ?_) fun _ _ e => e.elim)
      refine seg_bind_wrap (wpAny_mono h (fun ok s3 h => ?_) fun _ _ e => e.elim)
      cases ok with
      | false =>
        simp only [Bool.false_eq_true, if_false] at h ⊢
        obtain ⟨m', hm, hW'⟩ := h
        exact seg_again rfl (ih m' hm n s₀ s3 (by omega) hW')
      | true =>
        simp only [if_true] at h ⊢
        have hy : ∀ v, yieldOut cenv v = yieldValue v := fun v => by simp only [yieldOut, hco, Bool.false_eq_true, if_false]
        simp only [hy]
        rw [Sem.bind_eq_wrap', Sem.bind_eq_wrap', Sem.wrap_wrap, Sem.wrap_wrap]
        refine seg_wrap (wpAny_mono h (fun y s4 h => ?_) fun _ _ e => e.elim)
        obtain ⟨hC, hgo⟩ := h
        obtain ⟨n', rfl⟩ : ∃ n', n = n' + 1 := ⟨n - 1, by omega⟩
        refine seg_at (seg_yield rfl rfl rfl ⟨hC, fun gy s'' hs => ?_⟩)
        obtain ⟨m', hm, hW'⟩ := hgo gy
        exact seg_again rfl (ih m' hm n' s'' s'' (by omega) (hW' s'' hs))
/-- from its beginning -/
theorem seg_start {elt tg iter : Expr} {ifs : List Expr} {scope : Scope} {pos : Pos} {I : Addr} {cenv : Env} {Sr : Value → Shared → Shared → Prop} {C : Shared → Value → Shared → Prop} {Go : Value → Prop} {Dn : Shared → Shared → Prop} {n : Nat} {s₀ s : Shared}
    (self : ∀ (B : Around) (Q : Value → Shared → Prop) (E : Value → Shared → Prop), Q (.ref I) s → wpAny (model prog w) B (pyIter (.ref I)) Q E s)
    (loop : Seg (model prog w) A (Rx Dn) (Yx Sr C Go) n s₀ (.compLoop (.GeneratorExp elt [⟨tg, iter, ifs, 0⟩] scope pos) 0 (.ref I) .none cenv)
      ((model prog w).den (.compLoop (.GeneratorExp elt [⟨tg, iter, ifs, 0⟩] scope pos) 0 (.ref I) .none cenv)) [] s) :
    Seg (model prog w) A (Rx Dn) (Yx Sr C Go) n s₀ (.compStart (.GeneratorExp elt [⟨tg, iter, ifs, 0⟩] scope pos) 0 (.ref I) .none cenv)
      ((model prog w).den (.compStart (.GeneratorExp elt [⟨tg, iter, ifs, 0⟩] scope pos) 0 (.ref I) .none cenv)) [] s := by
  show Seg _ A _ _ _ s₀ _ ((compStart (.GeneratorExp elt [⟨tg, iter, ifs, 0⟩] scope pos) 0 (.ref I) .none cenv).onRaise (leaving cenv)) [] s
  unfold compStart
  rw [Sem.onRaise_eq_wrap]
  show Seg _ A _ _ _ s₀ _ ((ask >>= _).wrap _ _ _ _) [] s
  refine seg_bind_wrap (wpAny_askSetting ?_)
  split
  · exact seg_again rfl loop
  · refine seg_bind_wrap (wpAny_rule ?_)
    show Seg _ A _ _ _ s₀ _ ((standAt iter.pos >>= _).wrap _ _ _ _) [] s
    exact seg_bind_wrap (wpAny_standAt (seg_bind_wrap (self _ _ _ (seg_again rfl loop))))
end
end Gx
end PySem
/-! ### the two together: all(g), any(g), g a generator expression not yet begun -/
namespace PySem
namespace Gx
open PySem.W PySem.Calls PyProof.Rows L2 GenW
/-- the heap is extended; the table of generators stays bare -/
structure Ex (s s' : Shared) : Prop where
  os : s'.os = s.os
  bare : AllBare s'.gens
  heap : ∀ b o, s.heap.get? b = some o → s'.heap.get? b = some o
/-- the end of the generator -/
def Rg (Dn : Shared → Shared → Prop) : GenEnd := fun _ s₀ r s₁ => ((r = .ok (.ret .none) ∨ r = .ok .next) ∧ Dn s₀ s₁) ∨ ∃ e, r = .error e ∧ False
theorem seg_rg {M : Model} {A : Around} {Sr : Value → Shared → Shared → Prop} {C : Shared → Value → Shared → Prop} {Go : Value → Prop} {Dn : Shared → Shared → Prop} {n : Nat} {s₀ : Shared} {c : Code} {t : Sem PySem.Fin} {fs : List Frame} {s : Shared} (h : Seg M A (Rx Dn) (Yx Sr C Go) n s₀ c t fs s) : Seg M A (Rg Dn) (Yx Sr C Go) n s₀ c t fs s :=
  seg_imp (fun _ s₀ r s h => .inl ⟨.inr h.1, h.2⟩) (fun _ _ v s kap kap' hk h => ⟨h.1, fun gv s' hs => hk _ _ (h.2 gv s' hs)⟩) n h
section
variable {prog : Program} {w : World} {A : Around} {E : Value → Shared → Prop} {a : Addr} {g : Nat}
/-- a value that is handed out: its generator stands; what then is, if the consumer stops at it -/
def Cx (a : Addr) (g : Nat) (stop : Bool) (Q : Shared → Prop) (v : Value) (s : Shared) : Prop :=
  ∃ b, v = .bool b ∧ s.heap.IsGen a g ∧ s.heap.NoLimit ∧ AllBare s.gens ∧ (b = stop → ∀ s', Sl s s' → Q s')
def Dx (Q : Shared → Prop) (s : Shared) : Prop := AllBare s.gens ∧ ∀ s', Ex s s' → Q s'
/-- the generator sleeps, m items at most are left -/
def Wx (prog : Program) (w : World) (A : Around) (a : Addr) (g : Nat) (stop : Bool) (C : Value → Shared → Prop) (Dn : Shared → Prop) (m : Nat) (s : Shared) : Prop :=
  s.heap.IsGen a g ∧ s.heap.NoLimit ∧ AllBare s.gens ∧ ∃ gs, s.gens[g]? = some gs ∧ gs.Goes (model prog w) A (Rg fun _ => Dn) (Yx (fun _ => Sl) (fun _ => C) fun v => v = .bool (!stop)) m (.send .none) (s.setGen g .running)
theorem next_x {stop : Bool} {Q1 Q2 : Shared → Prop} {R : Option Value → Shared → Prop} {m : Nat} {s : Shared} (hh : A.handled = none) (hd : A.depth < recursionLimit)
    (hW : Wx prog w A.in1 a g stop (Cx a g stop Q1) (Dx Q2) m s)
    (hnone : ∀ s', Q2 s' → R none s')
    (hstop : ∀ s', Q1 s' → R (some (.bool stop)) s')
    (hgo : ∀ s' m', m' < m → Wx prog w A.in1 a g stop (Cx a g stop Q1) (Dx Q2) m' s' → R (some (.bool (!stop))) s') :
    wpAny (model prog w) A (pyNext (.ref a)) R E s := by
  obtain ⟨hg, hl, hb, gs, hgs, hgoes⟩ := hW
  have hgl : g < s.gens.size := (Array.getElem?_eq_some_iff.mp hgs).1
  refine wpAny_gsz (n := g + 1) hgl (next_genG (F := fun _ _ s₁ => Dx Q2 s₁) (Er := fun _ _ => False) hh hl hd hg hgs hgoes (fun v s₁ gs' hbare hv => ?_) (fun s₁ hp h' hk => ?_) fun e s₁ he => he.elim)
  · intro hsz
    obtain ⟨⟨b, rfl, hg1, hl1, hb1, hs1⟩, hk⟩ := hv
    have hsz1 : g < s₁.gens.size := by
      have q : (s₁.setGen g gs').gens.size = s₁.gens.size := setGen_size _ _ _
      have hsz' : g + 1 ≤ (s₁.setGen g gs').gens.size := hsz
      omega
    by_cases e : b = stop
    · subst e
      exact hstop _ (hs1 rfl _ ⟨rfl, allBare_setGen hb1 hbare, rfl⟩)
    · have e2 : b = !stop := by cases b <;> cases stop <;> first | rfl | exact absurd rfl e
      subst e2
      cases m with
      | zero => exact (hk rfl s₁ ⟨rfl, hb1, rfl⟩).elim
      | succ k => exact hgo _ k (Nat.lt_succ_self k) ⟨hg1, hl1, allBare_setGen hb1 hbare, gs', setGen_at hsz1, hk rfl _ ⟨rfl, allBare_setGen (s := s₁.setGen g gs') (allBare_setGen hb1 hbare) rfl, rfl⟩⟩
  · intro hsz
    exact hnone _ (hp.2 _ ⟨rfl, allBare_setGen hp.1 rfl, hk⟩)
theorem call_all_gen {Q : Value → Shared → Prop} {m : Nat} {s : Shared} (hh : A.handled = none) (hd : A.depth + 1 < recursionLimit)
    (hW : Wx prog w A.in1.in1 a g false (Cx a g false fun s' => Q (.bool false) s') (Dx fun s' => Q (.bool true) s') m s) :
    wpAny (model prog w) A (call (.builtin "all") [.ref a]) Q E s := by
  refine call_function_tree F.kind_all F.plain_all F.entry_all (F.args_all1 _) ?_
  unfold Builtin.«all»
  refine wpAny_bind (m := oneArg "all" _) (wpAny_pure ?_)
  refine wpAny_bind (wpAny_pyIter_gen hW.1 ?_)
  refine wpAny_pure ⟨plainId_quiet F.plain_all_loop _, ?_⟩
  refine all_loop (A := A) (fun m s => Wx prog w A.in1.in1 a g false (Cx a g false fun s' => Q (.bool false) s') (Dx fun s' => Q (.bool true) s') m s) (fun m s h => ?_) m s hW
  exact next_x (A := A.in1) hh (by show A.depth < _; omega) h (fun s' q => q) (fun s' q => ⟨false, rfl, q⟩) fun s' m' hm h' => ⟨true, rfl, m', hm, h'⟩
theorem call_any_gen {Q : Value → Shared → Prop} {m : Nat} {s : Shared} (hh : A.handled = none) (hd : A.depth + 1 < recursionLimit)
    (hW : Wx prog w A.in1.in1 a g true (Cx a g true fun s' => Q (.bool true) s') (Dx fun s' => Q (.bool false) s') m s) :
    wpAny (model prog w) A (call (.builtin "any") [.ref a]) Q E s := by
  refine call_function_tree F.kind_any F.plain_any F.entry_any (F.args_any1 _) ?_
  unfold Builtin.«any»
  refine wpAny_bind (m := oneArg "any" _) (wpAny_pure ?_)
  refine wpAny_bind (wpAny_pyIter_gen hW.1 ?_)
  refine wpAny_pure ⟨plainId_quiet F.plain_any_loop _, ?_⟩
  refine any_loop (A := A) (fun m s => Wx prog w A.in1.in1 a g true (Cx a g true fun s' => Q (.bool true) s') (Dx fun s' => Q (.bool false) s') m s) (fun m s h => ?_) m s hW
  exact next_x (A := A.in1) hh (by show A.depth < _; omega) h (fun s' q => q) (fun s' q => ⟨true, rfl, q⟩) fun s' m' hm h' => ⟨false, rfl, m', hm, h'⟩
end
end Gx
end PySem
/-! ### a generator expression is made -/
namespace PySem
namespace Gx
open PySem.W PySem.Calls PyProof.Rows L2 GenW
section
variable {X : L2.Cx} {pins : List (Addr × Obj)} {σ : L2.St} {H : Hp} {s : Shared}
theorem gen_make {c P : Addr} {elt tg iter : Expr} {ifs : List Expr} {x : Str} {gpos : Pos} {scope : Scope} {wi : TI} {k : Nat} {Q' : Value → Shared → Prop} {R : It → Hp → Prop}
    (hr : Room k X.A) (TB : GxR.TabB X.base X.mg c P) (hcode : X.env.code = .ref c) (S : GxR.GenS X.env scope x) (hi : PI X tg iter wi) (hs : ∀ v, genFold iter X.env v = pure v)
    (I : Inv X pins σ H s) (h : wi σ H fun J H1 => GxR.TabG H1 P ∧ R J H1)
    (hQ : ∀ (it : Addr) (fp : List Addr) (tn : Nat → Heap → Prop) (J : It) (H1 H2 : Hp) (code : Value) (C a : Addr) (g : Nat) (s4 s5 : Shared), R J H1 → GxR.Tabbed P H1 H2 → Inv X pins σ H2 s4 → s4.heap.objs.size = C → (∀ b o, s4.heap.get? b = some o → s5.heap.get? b = some o) → s5.os = s4.os → tn 0 s4.heap → Inv X pins σ H2 s5 → Turn X.prog X.w X.K tg J fp it tn → tn 0 s5.heap → (∀ b ∈ fp, FpOk X pins H2 b) →
      s5.heap.Ns C (fun y => if y = ".0" then some (.ref it) else none) → FpOk X pins H2 C → C ∉ fp → s5.heap.IsGen a g → FpOk X pins H2 a → a ∉ fp → a ≠ C →
      s5.gens[g]? = some (.fresh (.compStart (.GeneratorExp elt [⟨tg, iter, ifs, 0⟩] scope gpos) 0 (.ref it) .none (genEnv scope (cloFrom X.env.cells scope.names []) C code builtinsNs X.env))) → Q' (.ref a) s5) :
    wpAny (model X.prog X.w) X.A (eval (.GeneratorExp elt [⟨tg, iter, ifs, 0⟩] scope gpos) X.env) Q' X.xe s := by
  refine wpAny_GeneratorExp_make S.co (closure_ok S.free) S.cell S.dot S.kind (by have := hr.dp; omega) ?_ hs
  refine thn (hi.run pins s σ H _ I h) fun xv s1 h1 => thn h1 fun itv s2 h2 => ?_
  obtain ⟨it, fp, tn, J, H1, rfl, I2, T, st2, f2, ⟨ps, hP, ht⟩, q⟩ := h2
  have hPs : s2.heap.get? P = some { cls := .none, data := .fields ps } := I2.hok P _ hP
  have hPlt : P < s2.heap.objs.size := Heap.lt_size hPs
  have cd : PySem.W.CodeHd s2.heap c P := TB.code.keeps fun b u e => I2.bk b u e
  have cont : ∀ (code : Value) (h3 : Heap) (tk : Nat) (ps' : Array Value), Heap.ExtBut P s2.heap h3 → s2.heap.objs.size ≤ h3.objs.size → h3.get? P = some { cls := .none, data := .fields ps' } → (∃ more, ps' = ps ++ more) → TriplesOk ps'.toList →
      wpAny (model X.prog X.w) X.A (builtinsFor X.env.globals X.env.builtins) (fun bi s₄ =>
        ∀ h', h'.Ns s₄.heap.objs.size (fun y => if y = ".0" then some (.ref it) else none) → Heap.SameBut s₄.heap.objs.size (s₄.heap.push { cls := .type "frame", data := .dict #[] }) h' →
          Q' (.ref h'.objs.size) { s₄ with
            gens := s₄.gens.push (.fresh (.compStart (.GeneratorExp elt [⟨tg, iter, ifs, 0⟩] scope gpos) 0 (.ref it) .none (genEnv scope (cloFrom X.env.cells scope.names []) s₄.heap.objs.size code bi X.env))),
            toks := s₄.toks + 1 + 1 + 1,
            heap := h'.push { cls := .type "generator", data := .fields #[.int s₄.gens.size 0, .str "<genexpr>" (s₄.toks + 1), .str (X.env.qual ++ "<genexpr>") (s₄.toks + 1 + 1)] } }) X.xe { s2 with heap := h3, toks := tk } := by
    intro code h3 tk ps' hx hsz hP3 hmore ht3
    obtain ⟨bm, ob, e1, e2, e3, e4, e5, e6, e7, e8⟩ := TB.bm
    refine wpAny_builtinsFor (m := X.mg) (by rw [I2.ok.glob]; exact (I2.mod.glob.keeps I2.bk).extBut hx TB.gP) e1 e2 (hx _ _ e4 (I2.bk _ _ e5)) e6 e7 e8 ?_
    intro h' hn' hs'
    have hsz' : h'.objs.size = h3.objs.size + 1 := by rw [hs'.1, Heap.size_push]
    have keep' : ∀ b o, h3.get? b = some o → h'.get? b = some o := fun b o e => hs'.extBut b o (Nat.ne_of_lt (Heap.lt_size e)) (Heap.get?_push_of_some _ e)
    have keep5 : ∀ b o, b ≠ P → s2.heap.get? b = some o → (h'.push { cls := .type "generator", data := .fields #[.int s2.gens.size 0, .str "<genexpr>" (tk + 1), .str (X.env.qual ++ "<genexpr>") (tk + 1 + 1)] }).get? b = some o :=
      fun b o hb e => Heap.get?_push_of_some _ (keep' b o (hx b o hb e))
    obtain ⟨more, em⟩ := hmore
    have nfP : ∀ b ∈ fp, b ≠ P := fun b hb e => by
      have := (f2 b hb).1
      rw [e, hP] at this
      cases this
    have fok : ∀ b, FpOk X pins H1 b → FpOk X pins (upd H1 P (.tbl (ps ++ more))) b := fun b hb => by
      have nb : b ≠ P := fun e => by
        have := hb.1
        rw [e, hP] at this
        cases this
      exact ⟨by rw [upd_ne nb]; exact hb.1, hb.2⟩
    have hCf : (h3.objs.size : Nat) ∉ fp := fun hb => by
      obtain ⟨o, ho, _⟩ := T.obj _ _ st2 _ hb
      exact absurd (Nat.lt_of_lt_of_le (Heap.lt_size ho) hsz) (Nat.lt_irrefl _)
    have hge : s2.heap.objs.size ≤ h'.objs.size := by rw [hsz']; exact Nat.le_succ_of_le hsz
    have haf : (h'.objs.size : Nat) ∉ fp := fun hb => by
      obtain ⟨o, ho, _⟩ := T.obj _ _ st2 _ hb
      exact absurd (Nat.lt_of_lt_of_le (Heap.lt_size ho) hge) (Nat.lt_irrefl _)
    have J5 := GxR.inv_tab (more := more) (h' := h'.push { cls := .type "generator", data := .fields #[.int s2.gens.size 0, .str "<genexpr>" (tk + 1), .str (X.env.qual ++ "<genexpr>") (tk + 1 + 1)] })
      (g' := s2.gens.push (.fresh (.compStart (.GeneratorExp elt [⟨tg, iter, ifs, 0⟩] scope gpos) 0 (.ref it) .none (genEnv scope (cloFrom X.env.cells scope.names []) h3.objs.size code builtinsNs X.env)))) (d' := s2.drawn) (t' := tk + 1 + 1 + 1)
      I2 hP keep5 (by rw [← em]; exact Heap.get?_push_of_some _ (keep' P _ hP3)) (I2.bare.push rfl)
    have J4 := GxR.inv_tab (more := more) (h' := h3) (g' := s2.gens) (d' := s2.drawn) (t' := tk) I2 hP (fun b o hb e => hx b o hb e) (by rw [← em]; exact hP3) I2.bare
    refine hQ it fp tn J H1 (upd H1 P (.tbl (ps ++ more))) code h3.objs.size h'.objs.size s2.gens.size _ _ q ⟨⟨ps ++ more, upd_same, by rw [← em]; exact ht3⟩, fun b hb => upd_ne hb⟩ J4 rfl (fun b o e => Heap.get?_push_of_some _ (keep' b o e)) rfl (T.keep _ _ _ st2 fun b hb o e => hx b o (nfP b hb) e) J5 T
      (T.keep _ _ _ st2 fun b hb o e => keep5 b o (nfP b hb) e) (fun b hb => fok b (f2 b hb)) (hn'.push _) (fok _ (I2.fpOk hsz (I2.hok.fresh hsz))) hCf ⟨_, _, _, Heap.get?_push_size _ rfl, rfl, rfl, rfl⟩
      (fok _ (I2.fpOk hge (I2.hok.fresh hge))) haf (by rw [hsz']; exact Nat.succ_ne_self _) (Array.getElem?_push_size ..)
  refine ⟨I2.nolimit, ?_⟩
  cases hf : codeAmong gpos ps.toList with
  | none =>
    refine wpAny_genexprCodeX hcode (cd.code hPs ht) (cd.tab hPs) hf fun c' h' tk hx hge hlt hco' _ htab' _ => ?_
    obtain ⟨o1, vs, f1, tf, fl, tg', inF, tx, tt, op, _, _, _, _, _, _, _, _, _, htr, _⟩ := hco'
    exact cont _ h' tk _ hx (Nat.le_trans hge (Nat.le_of_lt hlt)) htab'.2 ⟨_, rfl⟩ htr
  | some cv =>
    refine wpAny_genexprCode_hit hcode (cd.code hPs ht) hf ?_
    exact cont cv s2.heap s2.toks ps (Heap.ExtBut.refl _ _) (Nat.le_refl _) hPs ⟨#[], by simp⟩ ht
end
end Gx
end PySem
/-! ### the frame of the expression, as a context -/
namespace PySem
namespace Gx
open PySem.W PySem.Calls PyProof.Rows L2 GenW
abbrev gcx (X : L2.Cx) (B : Around) (s : Shared) (H : Hp) (env : Env) (fp : List Addr) (pn : List (Addr × Obj)) : L2.Cx :=
  { X with A := B, s_0 := s, H_0 := H, env := env, outer := X.stack, stack := env :: X.stack, ex := fp, fn := fun _ => false, pn := pn, xe := fun _ _ => False }
section
variable {X : L2.Cx} {pins : List (Addr × Obj)} {σ : L2.St} {H : Hp} {s4 s5 : Shared}
/-- s4: ahead of the frame; s5: the generator stands -/
theorem gx_start {B : Around} {scope : Scope} {own : List (Str × Nat)} {fp : List Addr} {pn : List (Addr × Obj)} {code it : Value} (I4 : Inv X pins σ H s4) (I5 : Inv X pins σ H s5) (ok : BlkOk X.N X.env.scope scope own) (hN : X.N.Nodup)
    (hcell : ∀ y ∈ scope.names, y.2 ≠ .cell) (hX : X.calm = true) (hB : B.handled = none) (hBf : B.frames = some (genEnv scope (cloFrom X.env.cells scope.names []) s4.heap.objs.size code builtinsNs X.env :: X.stack))
    (hfp : ∀ b ∈ fp, FpOk X pins H b ∧ b ≠ s4.heap.objs.size) (keep : ∀ b o, s4.heap.get? b = some o → s5.heap.get? b = some o) (os : s5.os = s4.os)
    (hns : s5.heap.Ns s4.heap.objs.size (fun y => if y = ".0" then some it else none)) (hpn : ∀ p ∈ pn, s5.heap.get? p.1 = some p.2 ∧ H p.1 = none ∧ p.1 ≠ s4.heap.objs.size ∧ p.1 ∉ frs X.stack ∧ ∀ v, p.2.data ≠ .cell v) :
    Inv (gcx X B s4 H (genEnv scope (cloFrom X.env.cells scope.names []) s4.heap.objs.size code builtinsNs X.env) fp pn) [] (wipe σ (own.map (·.2))) H s5 := by
  have hfree : ∀ y ∈ scope.names, y.2 = .free → ∃ c, X.env.cells.lookup y.1 = some c := fun y hy e => by
    rcases ok.free y hy e with k | k
    · exact I4.ok.has _ (.inl k)
    · exact I4.ok.has _ (.inr k)
  have cm : ∀ {y c}, (y, c) ∈ cloFrom X.env.cells scope.names [] → X.env.cells.lookup y = some c ∧ c < s4.heap.objs.size := fun {y c} hm => by
    rcases cloFrom_mem hm with hm | ⟨h1, rfl⟩
    · cases hm
    · obtain ⟨c, hc⟩ := hfree _ h1 rfl
      rw [hc]
      obtain ⟨w, z⟩ := I4.cell _ _ hc
      exact ⟨rfl, z.lt⟩
  have mem : ∀ {y c}, (cloFrom X.env.cells scope.names []).lookup y = some c → X.env.cells.lookup y = some c ∧ c < s4.heap.objs.size := fun {y c} e => cm (PySem.mem_of_lookup e)
  have look : ∀ {y}, scope.names.lookup y = some .free → ∃ c, (cloFrom X.env.cells scope.names []).lookup y = some c ∧ X.env.cells.lookup y = some c := fun {y} hl => by
    have hy : (y, NameKind.free) ∈ scope.names := PySem.mem_of_lookup hl
    obtain ⟨c', e'⟩ := mem_lookup (cloFrom_has (cells := X.env.cells) (acc := []) hy)
    exact ⟨c', e', (mem e').1⟩
  have okB : (gcx X B s4 H (genEnv scope (cloFrom X.env.cells scope.names []) s4.heap.objs.size code builtinsNs X.env) fp pn).Ok := by
    refine ⟨I4.ok.mod, ok.kind, I4.ok.glob, rfl, Nat.le_refl _, fun y z c e1 e2 => I4.ok.inj y z c (mem e1).1 (mem e2).1, fun y hy => ?_, (fun y c z e => by cases z), fun _ => hB, hBf, .inr ⟨rfl, rfl⟩,
      fun b hb => ⟨(hfp b hb).2, fun y c e z => (hfp b hb).1.2.2.2.2.1 y c (mem e).1 z⟩, I4.bs, Nat.le_trans I4.ok.bsz I4.sz, fun b o e hb => ?_, fun b hb z => ?_, I4.stack, I4.stkFree⟩
    · rcases hy with hy | hy
      · exact absurd rfl (hcell _ (PySem.mem_of_lookup hy))
      · obtain ⟨c, h1, _⟩ := look hy
        exact ⟨c, h1⟩
    · rcases (hfp b hb).1.2.2.2.1 with z | z
      · exact I4.ok.noex b o e z
      · exact absurd (Nat.lt_of_lt_of_le (Heap.lt_size e) (Nat.le_trans I4.ok.bsz z)) (Nat.lt_irrefl _)
    · rcases List.mem_cons.mp (I4.stkSub b z) with z | z
      · exact (hfp b hb).1.2.1 z
      · exact (hfp b hb).1.2.2.1 z
  refine ⟨okB, os, I5.bare, Un.kept keep, ⟨_, hns, fun i y av e1 e2 e3 => ?_⟩, fun y c e => ?_, I4.hok.fresh (Nat.le_refl _), fun y c e => I4.freeC y c (mem e).1, fun p hp => ?_, I5.hok, by rw [wipe_length]; exact I4.len⟩
  · obtain ⟨e2, hne⟩ := wipe_some e2
    have hfr : scope.names.lookup y = some .free := by
      have no : ∀ k, scope.names.lookup y = some k → ¬ (k = .local ∨ k = .cell) := fun k hk hh => by
        rcases ok.own _ (PySem.mem_of_lookup hk) hh with e' | e'
        · obtain ⟨p, hp, hpy⟩ := List.mem_map.mp e'
          have e3 := ok.ix p hp
          have : p.1 = y := hpy
          rw [this] at e3
          exact hne (List.mem_map.mpr ⟨p, hp, nodup_ix hN e3 e1⟩)
        · exact e' (List.mem_of_getElem? e1)
      rcases e3 with e3 | e3 | e3
      · exact absurd (.inl rfl) (no _ e3)
      · exact absurd (.inr rfl) (no _ e3)
      · exact e3
    obtain ⟨m, hn, hl⟩ := I4.loc
    have hvis : Vis X.env.scope y := (ok.free _ (PySem.mem_of_lookup hfr) rfl).elim (fun k => .inr (.inl k)) (fun k => .inr (.inr k))
    obtain ⟨w, r, q⟩ := hl i y av e1 e2 hvis
    refine ⟨w, r, .inr ⟨.inr hfr, ?_⟩⟩
    obtain ⟨c, h1, h2⟩ := look hfr
    rcases q with ⟨k, _⟩ | ⟨_, c', e', z⟩
    · have k : X.env.scope.names.lookup y = some .local := k
      rcases ok.free _ (PySem.mem_of_lookup hfr) rfl with k' | k' <;> rw [show X.env.scope.names.lookup y = _ from k'] at k <;> cases k
    · rw [h2] at e'; cases e'
      exact ⟨c, h1, z.keeps keep⟩
  · obtain ⟨w, z⟩ := I4.cell y c (mem e).1
    exact ⟨w, z.keeps keep⟩
  · have hp : p ∈ pn := by simpa using hp
    exact hpn p hp
/-- the frame's around: the one of the caller, that frame on it -/
theorem gx_frames {A : Around} {elt iter tg : Expr} {ifs : List Expr} {scope : Scope} {pos : Pos} {it : Value} {env : Env} {l : List Env} (hf : env.frame = some env.locals) (h : A.frames = some l) :
    (A.over (.compLoop (.GeneratorExp elt [⟨tg, iter, ifs, 0⟩] scope pos) 0 it .none env) []).frames = some (env :: l) := by
  obtain ⟨hd, d, fr, gs, u⟩ := A
  have h : fr = some l := h
  subst h
  simp [Around.over, envsOf, pushEnvs, Code.envs, Code.env?, Code.isFrame]
end
end Gx
end PySem
/-! ### the rule -/
namespace PySem
namespace Gx
open PySem.W PySem.Calls PyProof.Rows L2 GenW
/-- all(e for t in it if c) (stop = false), any(..) (stop = true): vs: the expression's own names' places, P: the table of the def's code -/
def tGen (stop : Bool) (wi : TI) (g : TG) (tt : TT) (te : TE) (vs : List Nat) (P : Addr) : TE := fun σ H Q => wi σ H fun J H1 => GxR.TabG H1 P ∧ ∀ H2, GxR.Tabbed P H1 H2 → ∃ W : Nat → Nat → Hp → Prop, (∃ m, W 0 m H2) ∧ ∀ i m H, W i m H →
  (J.stop i H ∧ Q (.bl (!stop)) H) ∨ (J.go i H ∧ ∃ Nx : Hp → Prop, (∀ H', Nx H' → ∃ m', m' < m ∧ W (i + 1) m' H') ∧ ∀ x H', J.yld i H x H' → g x (wipe σ vs) H' fun σ2 H2 => wipe σ2 vs = wipe σ vs ∧ tt σ2 H2 fun b H3 =>
    if b = true then te σ2 H3 fun y H4 => ∃ c, y = .bl c ∧ if c = stop then Q (.bl stop) H4 else Nx H4 else Nx H3)
section
variable {X : L2.Cx} {pins : List (Addr × Obj)} {σ : L2.St} {H : Hp} {s : Shared}
theorem inv_sl {Y : L2.Cx} {pins : List (Addr × Obj)} {σ : L2.St} {H : Hp} {s s' : Shared} (I : Inv Y pins σ H s) (h : Sl s s') : Inv Y pins σ H s' :=
  I.call' (ch := []) h.os (Un.kept fun b o e => by rw [h.heap]; exact e) (I.hok.kept fun b o e => by rw [h.heap]; exact e) h.bare fun b hb => absurd hb (by simp)
/-- back in the caller's frame -/
theorem gx_back {B : Around} {s4 s1 s' : Shared} {H2 H' : Hp} {env : Env} {fp : List Addr} {pn ps : List (Addr × Obj)} {σ' : L2.St} (I4 : Inv X pins σ H2 s4) (hfp : ∀ b ∈ fp, FpOk X pins H2 b) (Ig : Inv (gcx X B s4 H2 env fp pn) ps σ' H' s1) (e : Ex s1 s') : Inv X pins σ H' s' :=
  I4.call' (ch := fp) (e.os.trans Ig.os) (Ig.base.trans (Un.kept e.heap)) (Ig.hok.kept e.heap) e.bare fun b hb => ⟨(hfp b hb).2.2.2.1, (hfp b hb).2.1, (hfp b hb).2.2.2.2.1, (hfp b hb).2.2.2.2.2⟩
theorem pe_gen (stop : Bool) {c P : Addr} {elt tg iter : Expr} {ifs : List Expr} {x : Str} {f : String} {p pos gpos : Pos} {scope : Scope} {own : List (Str × Nat)} {wi : TI} {g : TG} {tt : TT} {te : TE} {k : Nat} (hf : f = if stop = true then "any" else "all")
    (hr : Room (k + 3) X.A) (hc : X.calm = true) (hN : X.N.Nodup) (hg : Gl X f) (hm : X.mg f = none) (TB : GxR.TabB X.base X.mg c P) (hcode : X.env.code = .ref c) (S : GxR.GenS X.env scope x) (ok : BlkOk X.N X.env.scope scope own)
    (hi : PI X tg iter wi)
    (ht : ∀ (B : Around) (s : Shared) (H : Hp) (C : Addr) (code : Value) (fp : List Addr) (pn : List (Addr × Obj)), Room k B → PG (gcx X B s H (genEnv scope (cloFrom X.env.cells scope.names []) C code builtinsNs X.env) fp pn) tg g)
    (hts : ∀ (B : Around) (s : Shared) (H : Hp) (C : Addr) (code : Value) (fp : List Addr) (pn : List (Addr × Obj)), Room k B → PTs (gcx X B s H (genEnv scope (cloFrom X.env.cells scope.names []) C code builtinsNs X.env) fp pn) ifs tt)
    (hel : ∀ (B : Around) (s : Shared) (H : Hp) (C : Addr) (code : Value) (fp : List Addr) (pn : List (Addr × Obj)), Room k B → PE (gcx X B s H (genEnv scope (cloFrom X.env.cells scope.names []) C code builtinsNs X.env) fp pn) elt te)
    (hs : ∀ v, genFold iter X.env v = pure v)
    (he : starEach [.GeneratorExp elt [⟨tg, iter, ifs, 0⟩] scope gpos] X.env = (false, eval (.GeneratorExp elt [⟨tg, iter, ifs, 0⟩] scope gpos) X.env) :: starEach [] X.env := by rfl) :
    PE X (.Call (.Name f p) [.GeneratorExp elt [⟨tg, iter, ifs, 0⟩] scope gpos] [] pos) (tGen stop wi g tt te (own.map (·.2)) P) := by
  refine ⟨fun pins s σ H Q I h => ?_⟩
  have hstk := I.ok.frames
  have fin : ∀ (a : Addr) (g : Nat) (m : Nat) (s5 : Shared), Wx X.prog X.w X.A.in1.in1 a g stop (Cx a g stop fun s' => ∃ v H', Inv X pins σ H' s' ∧ RelV v (.bool stop) ∧ Q v H') (Dx fun s' => ∃ v H', Inv X pins σ H' s' ∧ RelV v (.bool !stop) ∧ Q v H') m s5 →
      wpAny (model X.prog X.w) X.A (call (.builtin f) [.ref a]) (fun u s' => ∃ v H', Inv X pins σ H' s' ∧ RelV v u ∧ Q v H') X.xe s5 := by
    intro a g m s5 hW
    subst hf
    cases stop with
    | false => exact call_all_gen (Q := fun u s' => ∃ v H', Inv X pins σ H' s' ∧ RelV v u ∧ Q v H') hr.hd (by have := hr.dp; omega) hW
    | true => exact call_any_gen (Q := fun u s' => ∃ v H', Inv X pins σ H' s' ∧ RelV v u ∧ Q v H') hr.hd (by have := hr.dp; omega) hW
  have hb : bootBuiltins f = some (.builtin f) := by subst hf; cases stop <;> decide +kernel
  refine wpAny_Call_Name_kw (ld_blt I hg hm hb ?_ (by subst hf; cases stop <;> decide) (by subst hf; cases stop <;> decide))
  refine PyProof.Rows.callWith_builtin1 ?_ he (by rfl)
  rw [he]
  show wpAny _ _ (spliced ((false, eval (.GeneratorExp elt [⟨tg, iter, ifs, 0⟩] scope gpos) X.env) :: backTo pos (starEach [] X.env))) _ _ s
  refine Calls.spliced_cons (gen_make hr TB hcode S hi hs I h fun it fp tn J H1 H2 code C a gi s4 s5 q tab I4 hC keep os st4 I5 T st5 f2 hns fC hCf hgen fa haf haC hgs => ?_)
  refine Calls.spliced_nil ?_
  obtain ⟨W, ⟨m0, w0⟩, turn⟩ := q H2 tab
  subst hC
  have lt4 : ∀ b ∈ fp, b < s4.heap.objs.size := fun b hb => by
    obtain ⟨o, ho, _⟩ := T.obj _ _ st4 b hb
    exact Heap.lt_size ho
  obtain ⟨ga, gnm, gqn, gho, gr⟩ := id hgen
  obtain ⟨gcl, gdt, gsl⟩ := gr
  have bh : ∀ {c : Code}, (X.A.in1.in1.over c []).handled = none := fun {c} => hr.hd
  have rb : Room k (X.A.in1.in1.over (.compLoop (.GeneratorExp elt [⟨tg, iter, ifs, 0⟩] scope gpos) 0 (.ref it) .none (genEnv scope (cloFrom X.env.cells scope.names []) s4.heap.objs.size code builtinsNs X.env)) []) := ⟨hr.hd, by
    have := hr.dp
    show X.A.depth + 1 + 3 * k + 5 < recursionLimit
    omega, by
    have := hr.un
    show X.A.units + 5 + 16 * k + 200 < cLine
    omega⟩
  have I6 := gx_start (code := code) (it := .ref it) (own := own) (pn := [(a, ga)]) I4 I5 ok hN S.cell hc (B := X.A.in1.in1.over (.compLoop (.GeneratorExp elt [⟨tg, iter, ifs, 0⟩] scope gpos) 0 (.ref it) .none (genEnv scope (cloFrom X.env.cells scope.names []) s4.heap.objs.size code builtinsNs X.env)) [])
    hr.hd (gx_frames rfl hstk) (fun b hb => ⟨f2 b hb, Nat.ne_of_lt (lt4 b hb)⟩) keep os hns (fun p hp => by
      rw [List.mem_singleton.mp hp]
      refine ⟨gho, fa.1, haC, fun z => ?_, fun v z => ?_⟩
      · rcases List.mem_cons.mp (I4.stkSub a z) with z | z
        · exact fa.2.1 z
        · exact fa.2.2.1 z
      · rw [gdt] at z; cases z)
  refine fin a gi (m0 + 1) s5 ⟨hgen, I5.nolimit, I5.bare, _, hgs, rfl, seg_rg (seg_start (fun B Q E hq => T.self B 0 _ Q E st5 hq) (seg_loop rfl S.co
    (fun m _ s => ∃ i H', Inv (gcx X (X.A.in1.in1.over (.compLoop (.GeneratorExp elt [⟨tg, iter, ifs, 0⟩] scope gpos) 0 (.ref it) .none (genEnv scope (cloFrom X.env.cells scope.names []) s4.heap.objs.size code builtinsNs X.env)) []) s4 H2 (genEnv scope (cloFrom X.env.cells scope.names []) s4.heap.objs.size code builtinsNs X.env) fp [(a, ga)]) [] (wipe σ (own.map (·.2))) H' s ∧
      tn i s.heap ∧ (∀ b ∈ fp, H' b = none) ∧ W i m H') ?_ m0 (m0 + 1) _ _ (Nat.lt_succ_self _) ⟨0, H2, ?_, st5, fun b hb => (f2 b hb).1, w0⟩))⟩
  · generalize hBB : X.A.in1.in1.over (.compLoop (.GeneratorExp elt [⟨tg, iter, ifs, 0⟩] scope gpos) 0 (.ref it) .none (genEnv scope (cloFrom X.env.cells scope.names []) s4.heap.objs.size code builtinsNs X.env)) [] = B at rb ⊢
    have pg := ht B s4 H2 s4.heap.objs.size code fp [(a, ga)] rb
    have pt := hts B s4 H2 s4.heap.objs.size code fp [(a, ga)] rb
    have pe := hel B s4 H2 s4.heap.objs.size code fp [(a, ga)] rb
    have stat : ∀ {σ' : L2.St} {H' : Hp} {s' : Shared}, Inv (gcx X B s4 H2 (genEnv scope (cloFrom X.env.cells scope.names []) s4.heap.objs.size code builtinsNs X.env) fp [(a, ga)]) [] σ' H' s' → (∀ b ∈ fp, H' b = none) → ∀ b ∈ fp, FpOk (gcx X B s4 H2 (genEnv scope (cloFrom X.env.cells scope.names []) s4.heap.objs.size code builtinsNs X.env) fp [(a, ga)]) [] H' b := fun {σ' H' s'} I' hn b hb =>
      ⟨hn b hb, (I'.ok.exf b hb).1, I'.ok.exfs b hb, .inl hb, fun x c e => (I'.ok.exf b hb).2 x c e, fun p hp => by
        have hp : p ∈ [(a, ga)] ++ [] := hp
        rw [List.append_nil, List.mem_singleton] at hp
        rw [hp]
        exact fun z => haf (by rw [show a = b from z]; exact hb)⟩
    rintro m _ s5' ⟨i, H5, I5', st5', n5, w5⟩
    rcases turn i m H5 w5 with ⟨stop_, qq⟩ | ⟨go, Nx, hNx, step⟩
    · refine thnF (T.done (gcx X B s4 H2 (genEnv scope (cloFrom X.env.cells scope.names []) s4.heap.objs.size code builtinsNs X.env) fp [(a, ga)]) rfl rfl rfl hc i [] s5' _ H5 (fun _ _ => False) I5' (stat I5' n5) st5' stop_) fun r s6 ⟨hr6, I6⟩ => ?_
      subst hr6
      exact ⟨I6.bare, fun s' ex => ⟨.bl (!stop), H5, gx_back I4 f2 I6 ex, rfl, qq⟩⟩
    · refine thnF (T.item (gcx X B s4 H2 (genEnv scope (cloFrom X.env.cells scope.names []) s4.heap.objs.size code builtinsNs X.env) fp [(a, ga)]) rfl rfl rfl hc i [] s5' _ H5 (fun _ _ => False) I5' (stat I5' n5) st5' go) fun r s6 ⟨u, hr6, h6⟩ => ?_
      subst hr6
      refine thnF h6 fun _ s7 ⟨x, H7, I7, r7, y7, st7, n7⟩ => ?_
      have I7' := I7.pinned (stat I7 n7) (T.obj _ _ st7)
      refine thnF (pg.run _ s7 _ H7 x u _ I7' r7 (step x H7 y7)) fun _ s8 ⟨σ8, H8, I8, hw8, q8⟩ => ?_
      refine thnF (pt.run _ s8 σ8 H8 _ I8 q8) fun b s9 ⟨H9, I9, q9⟩ => ?_
      have fin2 : ∀ {s' : Shared} {H' : Hp}, Inv (gcx X B s4 H2 (genEnv scope (cloFrom X.env.cells scope.names []) s4.heap.objs.size code builtinsNs X.env) fp [(a, ga)]) ([] ++ pinsAt fp s7.heap) σ8 H' s' → Nx H' → ∃ m', m' < m ∧ ∃ i H', Inv (gcx X B s4 H2 (genEnv scope (cloFrom X.env.cells scope.names []) s4.heap.objs.size code builtinsNs X.env) fp [(a, ga)]) [] (wipe σ (own.map (·.2))) H' s' ∧ tn i s'.heap ∧ (∀ b ∈ fp, H' b = none) ∧ W i m' H' := fun {s' H'} I' nx => by
        obtain ⟨m', hm, w'⟩ := hNx H' nx
        have pin' : ∀ b ∈ fp, ∀ o, s7.heap.get? b = some o → s'.heap.get? b = some o ∧ H' b = none := fun b hb o e =>
          let z := I'.pin (b, o) (List.mem_append_right _ (List.mem_append_right _ (mem_pinsAt hb e)))
          ⟨z.1, z.2.1⟩
        have hl : (wipe σ (own.map (·.2))).length = σ8.length := by rw [← hw8, wipe_length]
        refine ⟨m', hm, i + 1, H', (I'.unpinned (pins := [])).weak hl (fun j v e => ?_), T.keep _ _ _ st7 fun b hb o e => (pin' b hb o e).1, fun b hb => ?_, w'⟩
        · rw [← hw8] at e
          exact (wipe_some e).1
        · obtain ⟨o, e, _⟩ := T.obj _ _ st7 b hb
          exact (pin' b hb o e).2
      cases b with
      | false =>
        simp only [Bool.false_eq_true, if_false] at q9 ⊢
        exact fin2 I9 q9
      | true =>
        simp only [if_true] at q9 ⊢
        refine thnF (pe.run _ s9 σ8 H9 _ I9 q9) fun z s10 ⟨yv, H10, I10, r10, b10, e10, q10⟩ => ?_
        subst e10
        have r10 : z = .bool b10 := r10
        refine ⟨⟨b10, r10, ⟨ga, gnm, gqn, (I10.pin (a, ga) (by simp)).1, gcl, gdt, gsl⟩, I10.nolimit, I10.bare, fun e s' hs' => ?_⟩, ?_⟩
        · rw [if_pos e] at q10
          exact ⟨.bl stop, H10, gx_back I4 f2 I10 ⟨hs'.os, hs'.bare, fun b o q => by rw [hs'.heap]; exact q⟩, rfl, q10⟩
        · intro gy
          rw [r10] at gy
          have gy : b10 = !stop := by injection gy
          rw [if_neg (by rw [gy]; cases stop <;> decide)] at q10
          obtain ⟨m', hm, i', H', J', rest⟩ := fin2 I10 q10
          exact ⟨m', hm, fun s' hs' => ⟨i', H', inv_sl J' hs', by rw [hs'.heap]; exact rest.1, rest.2⟩⟩
  · exact inv_sl I6 ⟨rfl, allBare_setGen I5.bare rfl, rfl⟩
end
end Gx
end PySem
/-! ### the form one uses: over any walk of the hand layer (walk_list, walk_tup, walk_range, ..) -/
namespace PySem
namespace Gx
open PySem.W PySem.Calls PyProof.Rows L2 GenW
/-- Pv: what is true ahead of each turn; an element's answer ends the walk or leads to the next turn -/
theorem gen_walk {J : It} {n : Nat} {G : Hp → Prop} {Y : Nat → Hp → V → Hp → Prop} {g : TG} {tt : TT} {te : TE} {vs : List Nat} {σ : L2.St} {Hs : Hp} {stop : Bool} {Q : VK} (w : Walk J n G Y) (Pv : Nat → Hp → Prop) (first : Pv 0 Hs) (stands : ∀ i H, Pv i H → G H)
    (turn : ∀ i x H H', i < n → Pv i H → Y i H x H' → g x (wipe σ vs) H' fun σ2 H2 => wipe σ2 vs = wipe σ vs ∧ tt σ2 H2 fun b H3 => if b = true then te σ2 H3 fun y H4 => ∃ c, y = .bl c ∧ if c = stop then Q (.bl stop) H4 else Pv (i + 1) H4 else Pv (i + 1) H3)
    (last : ∀ H, Pv n H → Q (.bl (!stop)) H) : ∃ W : Nat → Nat → Hp → Prop, (∃ m, W 0 m Hs) ∧ ∀ i m H, W i m H →
      (J.stop i H ∧ Q (.bl (!stop)) H) ∨ (J.go i H ∧ ∃ Nx : Hp → Prop, (∀ H', Nx H' → ∃ m', m' < m ∧ W (i + 1) m' H') ∧ ∀ x H', J.yld i H x H' → g x (wipe σ vs) H' fun σ2 H2 => wipe σ2 vs = wipe σ vs ∧ tt σ2 H2 fun b H3 =>
        if b = true then te σ2 H3 fun y H4 => ∃ c, y = .bl c ∧ if c = stop then Q (.bl stop) H4 else Nx H4 else Nx H3) := by
  refine ⟨fun i left H => i + left = n ∧ Pv i H, ⟨n, Nat.zero_add n, first⟩, fun i left H here => ?_⟩
  obtain ⟨count, now⟩ := here
  cases left with
  | zero =>
    obtain rfl : i = n := count
    exact .inl ⟨w.stops H (stands _ H now), last H now⟩
  | succ fewer =>
    have more : i < n := by omega
    exact .inr ⟨w.goes i H more (stands i H now), Pv (i + 1), fun H' then_ => ⟨fewer, Nat.lt_succ_self fewer, by omega, then_⟩, fun x H' given => turn i x H H' more now (w.yields i H x H' more (stands i H now) given)⟩
end Gx
end PySem
namespace PySem
namespace Gx
open PySem.W PySem.Calls PyProof.Rows L2 GenW
def Fit (c : Int) : Prop := -(2 ^ 63) ≤ c ∧ c < 2 ^ 63
/-- the list that holds the total -/
def ownL (tot : Int) (t : Tok) (c : Nat) : Obj := { cls := .type "list", dict := none, data := .seq #[.int tot t] c, slots := #[] }
section
variable {prog : Program} {w : World} {A : Around} {R : Result → Shared → Prop} {I S : Addr}
theorem sum_loop (W : Nat → Int → Shared → Prop) (step : ∀ m tot s, W m tot s → (∃ tA c, s.heap.get? S = some (ownL tot tA c)) ∧ wpAny (model prog w) A.in1 (pyNext (.ref I)) (fun r s' => match r with
    | none => ∀ t, R (.ok (.ret (.int tot t))) s'
    | some v => ∃ b t tB c', v = .int b t ∧ Fit b ∧ Fit (tot + b) ∧ s'.heap.get? S = some (ownL tot tB c') ∧ ∃ m', m' < m ∧ W m' (tot + b) { s' with heap := s'.heap.update S (Obj.mapSeq fun _ => #[Value.int (tot + b) s'.toks]), toks := s'.toks + 1 }) (fun _ _ => False) s) :
    ∀ (m : Nat) (tot : Int) (s : Shared), W m tot s → codeAny (model prog w) A (.builtin "sum.loop" ⟨[.ref I, .ref S, rawInt 0, rawInt 0], []⟩) R s := by
  intro m
  induction m using Nat.strongRecOn with
  | ind m ih =>
    intro tot s here
    obtain ⟨⟨tA, c, before⟩, nxt⟩ := step m tot s here
    refine codeAny_builtin F.entry_sum_loop ?_
    rw [Around.under_plainId F.plain_sum_loop _]
    show wpAny _ A.in1 (seqItems? (.ref S) >>= _) _ _ s
    refine wpAny_bind (wpAny_seqItems before rfl (?_))
    show wpAny _ A.in1 (tryCatch (pyNext (.ref I)) _ >>= _) _ _ s
    refine wpAny_bind (wpAny_tryCatch (wpAny_mono nxt (fun r s' told => ?_) fun _ _ e => e.elim))
    cases r with
    | none => exact wpAny_pure (told tA)
    | some v =>
      obtain ⟨b, t, tB, c', rfl, f1, f2, after, m', less, then_⟩ := told
      show wpAny _ A.in1 (if (_ : Bool) = true then (mkInt (tot + b) >>= _) else _) _ _ s'
      have fits : (decide (-(2 ^ 63) ≤ b) && decide (b < 2 ^ 63) && (decide (-(2 ^ 63) ≤ tot + b) && decide (tot + b < 2 ^ 63))) = true := by
        rw [decide_eq_true f1.1, decide_eq_true f1.2, decide_eq_true f2.1, decide_eq_true f2.2]
        rfl
      split
      rotate_left
      · rename_i bad
        exact absurd fits bad
      refine wpAny_bind (wpAny_mkInt (?_))
      show wpAny _ A.in1 (updateSeq S (fun _ => #[.int (tot + b) s'.toks]) >>= _) _ _ _
      refine wpAny_bind (?_)
      exact wpAny_updateSeq after rfl (wpAny_pure ⟨plainId_quiet F.plain_sum_loop _, ih m' less (tot + b) _ then_⟩)
end
/-- the consumer's list S alone has changed: b more -/
structure SlS (S : Addr) (b : Int) (s s' : Shared) : Prop where
  os : s'.os = s.os
  bare : AllBare s'.gens
  heap : ∀ x o, x ≠ S → s.heap.get? x = some o → s'.heap.get? x = some o
  own : ∀ tot t c, s.heap.get? S = some (ownL tot t c) → ∃ t' c', s'.heap.get? S = some (ownL (tot + b) t' c')
def SrS (S : Addr) (v : Value) (s s' : Shared) : Prop := ∀ b t, v = .int b t → SlS S b s s'
def CS (a : Addr) (g : Nat) (S : Addr) (s₀ : Shared) (v : Value) (s : Shared) : Prop := ∃ b t tot t1 c1 t2 c2, v = .int b t ∧ Fit b ∧ Fit (tot + b) ∧ s₀.heap.get? S = some (ownL tot t1 c1) ∧ s.heap.get? S = some (ownL tot t2 c2) ∧ s.heap.IsGen a g ∧ s.heap.NoLimit ∧ AllBare s.gens
def DS (S : Addr) (Q : Int → Shared → Prop) (s₀ s : Shared) : Prop := AllBare s.gens ∧ ∃ tot t1 c1, s₀.heap.get? S = some (ownL tot t1 c1) ∧ ∀ s', Ex s s' → Q tot s'
def Ws (prog : Program) (w : World) (A : Around) (a : Addr) (g : Nat) (S : Addr) (Q : Int → Shared → Prop) (m : Nat) (s : Shared) : Prop :=
  s.heap.IsGen a g ∧ s.heap.NoLimit ∧ AllBare s.gens ∧ ∃ gs, s.gens[g]? = some gs ∧ gs.Goes (model prog w) A (Rg (DS S Q)) (Yx (SrS S) (CS a g S) fun _ => True) m (.send .none) (s.setGen g .running)
theorem ownL_inj {x y : Int} {t u : Tok} {c d : Nat} (h : ownL x t c = ownL y u d) : x = y := by
  unfold ownL at h
  injection h with _ _ h
  injection h with h
  injection h with h
  injection h with h
  injection h
section
variable {prog : Program} {w : World} {A : Around} {E : Value → Shared → Prop} {a S : Addr} {g : Nat}
theorem next_s {Q : Int → Shared → Prop} {R : Option Value → Shared → Prop} {m : Nat} {s : Shared} {tot : Int} {tA : Tok} {c : Nat} (hh : A.handled = none) (hd : A.depth < recursionLimit) (apart : a ≠ S) (statics : cStatics ≠ S)
    (hW : Ws prog w A.in1 a g S Q m s) (before : s.heap.get? S = some (ownL tot tA c))
    (hnone : ∀ s', Q tot s' → R none s')
    (hgo : ∀ s' b t tB c', Fit b → Fit (tot + b) → s'.heap.get? S = some (ownL tot tB c') → (∃ m', m' < m ∧ ∀ h' tk, (∀ x o, x ≠ S → s'.heap.get? x = some o → h'.get? x = some o) → (∃ t' c', h'.get? S = some (ownL (tot + b) t' c')) → Ws prog w A.in1 a g S Q m' { s' with heap := h', toks := tk }) → R (some (.int b t)) s') :
    wpAny (model prog w) A (pyNext (.ref a)) R E s := by
  obtain ⟨hg, hl, hb, gs, hgs, goes⟩ := hW
  have hgl : g < s.gens.size := (Array.getElem?_eq_some_iff.mp hgs).1
  refine wpAny_gsz (n := g + 1) hgl (next_genG (F := fun _ s₀ s₁ => DS S Q s₀ s₁) (Er := fun _ _ => False) hh hl hd hg hgs goes (fun v s₁ gs' hbare hv => ?_) (fun s₁ hp h' hk => ?_) fun e s₁ he => he.elim)
  · intro hsz
    obtain ⟨⟨b, t, tot', t1, c1, t2, c2, rfl, f1, f2, s0S, s1S, hg1, hl1, hb1⟩, hk⟩ := hv
    have e : tot' = tot := by
      have z : s.heap.get? S = some (ownL tot' t1 c1) := s0S
      rw [before] at z
      injection z with z
      exact (ownL_inj z).symm
    subst e
    have hsz1 : g < s₁.gens.size := by
      have q : (s₁.setGen g gs').gens.size = s₁.gens.size := setGen_size _ _ _
      have hsz' : g + 1 ≤ (s₁.setGen g gs').gens.size := hsz
      omega
    refine hgo _ b t t2 c2 f1 f2 s1S ?_
    cases m with
    | zero =>
      exfalso
      refine hk trivial { s₁ with heap := s₁.heap.update S (Obj.mapSeq fun _ => #[Value.int (tot' + b) t2]) } fun b' t' z => ?_
      injection z with z
      subst z
      refine ⟨rfl, hb1, fun x o hx q => (Heap.get?_update_other _ _ (fun h : S = x => hx h.symm)).trans q, fun tot2 t3 c3 q => ?_⟩
      rw [s1S] at q
      injection q with q
      have := ownL_inj q
      subst this
      exact ⟨t2, _, Heap.get?_update_self _ s1S rfl⟩
    | succ k =>
      refine ⟨k, Nat.lt_succ_self k, fun h' tk others mine => ⟨?_, hl1.at fun o q => others _ o statics q, allBare_setGen hb1 hbare, gs', setGen_at hsz1, hk trivial _ fun b' t' z => ?_⟩⟩
      · obtain ⟨o, nm, qn, ho, r⟩ := hg1
        exact ⟨o, nm, qn, others a o apart ho, r⟩
      · injection z with z
        subst z
        refine ⟨rfl, allBare_setGen (s := { s₁.setGen g gs' with heap := h', toks := tk }) (allBare_setGen hb1 hbare) rfl, others, fun tot2 t3 c3 q => ?_⟩
        rw [s1S] at q
        injection q with q
        have := ownL_inj q
        subst this
        exact mine
  · intro hsz
    obtain ⟨hb1, tot', t1, c1, s0S, q⟩ := hp
    have e : tot' = tot := by
      have z : s.heap.get? S = some (ownL tot' t1 c1) := s0S
      rw [before] at z
      injection z with z
      exact (ownL_inj z).symm
    subst e
    exact hnone _ (q _ ⟨rfl, allBare_setGen hb1 rfl, hk⟩)
theorem call_sum_gen {Q : Value → Shared → Prop} {m : Nat} {s : Shared} (hh : A.handled = none) (hd : A.depth + 1 < recursionLimit) (hg : s.heap.IsGen a g) (statics : cStatics < s.heap.objs.size)
    (hW : ∀ t tk, Ws prog w A.in1.in1 a g s.heap.objs.size (fun tot s' => ∀ t, Q (.int tot t) s') m { s with heap := s.heap.push (ownL 0 t 0), toks := tk }) :
    wpAny (model prog w) A (call (.builtin "sum") [.ref a]) Q E s := by
  have lt : a < s.heap.objs.size := by
    obtain ⟨o, nm, qn, ho, r⟩ := hg
    exact Heap.lt_size ho
  refine call_function_tree F.kind_sum F.plain_sum F.entry_sum (F.args_sum1 _) ?_
  unfold Builtin.«sum»
  simp only [List.length_cons, List.length_nil]
  rw [if_neg (by decide)]
  refine wpAny_bind (wpAny_of_eq (show Builtin.Builtins.bindParams "sum" ["start"] 0 { } = pure [none] from rfl) (?_))
  refine wpAny_bind (wpAny_pyIter_gen hg (?_))
  refine wpAny_bind (wpAny_mkInt (?_))
  refine wpAny_bind (wpAny_pure (?_))
  simp only [List.forIn_cons, List.forIn_nil]
  refine wpAny_bind (wpAny_bind (wpAny_bind (wpAny_isInstance (T := "int") (b := false) (typeIs_int _ _ _) sub_int_str (?_))))
  simp only [Bool.false_eq_true, if_false]
  refine wpAny_pure (wpAny_bind (wpAny_bind (wpAny_isInstance (T := "int") (b := false) (typeIs_int _ _ _) sub_int_bytes (?_))))
  simp only [Bool.false_eq_true, if_false]
  refine wpAny_pure (wpAny_bind (wpAny_bind (wpAny_isInstance (T := "int") (b := false) (typeIs_int _ _ _) sub_int_bytearray (?_))))
  simp only [Bool.false_eq_true, if_false]
  refine wpAny_pure (wpAny_pure (?_))
  refine wpAny_bind (wpAny_newObj_type (?_))
  refine wpAny_pure ⟨plainId_quiet F.plain_sum_loop _, ?_⟩
  refine sum_loop (A := A) (S := s.heap.objs.size) (fun m tot s' => Ws prog w A.in1.in1 a g s.heap.objs.size (fun tot s' => ∀ t, Q (.int tot t) s') m s' ∧ ∃ tA c, s'.heap.get? s.heap.objs.size = some (ownL tot tA c)) (fun m tot s' here => ⟨here.2, ?_⟩) m 0 _ ⟨hW _ _, _, _, Heap.get?_push_size _ rfl⟩
  obtain ⟨hW', tA, c, before⟩ := here
  refine next_s (A := A.in1) hh (by show A.depth < _; omega) (Nat.ne_of_lt lt) (Nat.ne_of_lt statics) hW' before (fun s2 q t => q t) fun s2 b t tB c' f1 f2 after more => ?_
  obtain ⟨m', less, then_⟩ := more
  exact ⟨b, t, tB, c', rfl, f1, f2, after, m', less, then_ _ _ (fun x o hx q => (Heap.get?_update_other _ _ (fun h => hx h.symm)).trans q) ⟨_, _, Heap.get?_update_self _ after rfl⟩, _, _, Heap.get?_update_self _ after rfl⟩
end
end Gx
end PySem
/-! ### the rule -/
namespace PySem
namespace Gx
open PySem.W PySem.Calls PyProof.Rows L2 GenW
/-- sum(e for t in it if c): the total goes along with the walk -/
def tSum (wi : TI) (g : TG) (tt : TT) (te : TE) (vs : List Nat) (P : Addr) : TE := fun σ H Q => wi σ H fun J H1 => GxR.TabG H1 P ∧ ∀ H2, GxR.Tabbed P H1 H2 → ∃ W : Nat → Nat → Int → Hp → Prop, (∃ m, W 0 m 0 H2) ∧ ∀ i m tot H, W i m tot H →
  (J.stop i H ∧ Q (.int tot) H) ∨ (J.go i H ∧ ∃ Nx : Int → Hp → Prop, (∀ t' H', Nx t' H' → ∃ m', m' < m ∧ W (i + 1) m' t' H') ∧ ∀ x H', J.yld i H x H' → g x (wipe σ vs) H' fun σ2 H2 => wipe σ2 vs = wipe σ vs ∧ tt σ2 H2 fun b H3 =>
    if b = true then te σ2 H3 fun y H4 => ∃ c, y = .int c ∧ Fit c ∧ Fit (tot + c) ∧ Nx (tot + c) H4 else Nx tot H3)
section
variable {X : L2.Cx} {pins : List (Addr × Obj)} {σ : L2.St} {H : Hp} {s : Shared}
theorem inv_slS {Y : L2.Cx} {pins : List (Addr × Obj)} {σ : L2.St} {H : Hp} {s s' : Shared} {S : Addr} {b : Int} (I : Inv Y pins σ H s) (h : SlS S b s s') (f : FpOk Y pins H S) : Inv Y pins σ H s' :=
  inv_sl (I.turnedL (ch := [S]) (h' := s'.heap) (t' := s'.toks) (fun x o hx e => h.heap x o (by simpa using hx) e) fun x hx => by rw [List.mem_singleton.mp hx]; exact f) ⟨h.os, h.bare, rfl⟩
theorem pe_sum {c P : Addr} {elt tg iter : Expr} {ifs : List Expr} {x : Str} {p pos gpos : Pos} {scope : Scope} {own : List (Str × Nat)} {wi : TI} {g : TG} {tt : TT} {te : TE} {k : Nat}
    (hr : Room (k + 3) X.A) (hc : X.calm = true) (hN : X.N.Nodup) (hgl : Gl X "sum") (hm : X.mg "sum" = none) (TB : GxR.TabB X.base X.mg c P) (hcode : X.env.code = .ref c) (GS : GxR.GenS X.env scope x) (ok : BlkOk X.N X.env.scope scope own)
    (hi : PI X tg iter wi)
    (target : ∀ (B : Around) (s : Shared) (H : Hp) (C : Addr) (code : Value) (fp : List Addr) (pn : List (Addr × Obj)), Room k B → PG (gcx X B s H (genEnv scope (cloFrom X.env.cells scope.names []) C code builtinsNs X.env) fp pn) tg g)
    (tests : ∀ (B : Around) (s : Shared) (H : Hp) (C : Addr) (code : Value) (fp : List Addr) (pn : List (Addr × Obj)), Room k B → PTs (gcx X B s H (genEnv scope (cloFrom X.env.cells scope.names []) C code builtinsNs X.env) fp pn) ifs tt)
    (elem : ∀ (B : Around) (s : Shared) (H : Hp) (C : Addr) (code : Value) (fp : List Addr) (pn : List (Addr × Obj)), Room k B → PE (gcx X B s H (genEnv scope (cloFrom X.env.cells scope.names []) C code builtinsNs X.env) fp pn) elt te)
    (hs : ∀ v, genFold iter X.env v = pure v)
    (he : starEach [.GeneratorExp elt [⟨tg, iter, ifs, 0⟩] scope gpos] X.env = (false, eval (.GeneratorExp elt [⟨tg, iter, ifs, 0⟩] scope gpos) X.env) :: starEach [] X.env := by rfl) :
    PE X (.Call (.Name "sum" p) [.GeneratorExp elt [⟨tg, iter, ifs, 0⟩] scope gpos] [] pos) (tSum wi g tt te (own.map (·.2)) P) := by
  refine ⟨fun pins s σ H Q I h => ?_⟩
  have frames := I.ok.frames
  have hb : bootBuiltins "sum" = some (.builtin "sum") := by decide +kernel
  refine wpAny_Call_Name_kw (ld_blt I hgl hm hb ?_ (by decide) (by decide))
  refine PyProof.Rows.callWith_builtin1 ?_ he (by rfl)
  rw [he]
  show wpAny _ _ (spliced ((false, eval (.GeneratorExp elt [⟨tg, iter, ifs, 0⟩] scope gpos) X.env) :: backTo pos (starEach [] X.env))) _ _ s
  refine Calls.spliced_cons (gen_make hr TB hcode GS hi hs I h fun it fp tn J H1 H2 code C a gi s4 s5 q tab I4 hC keep os st4 I5 T st5 f2 hns fC hCf hgen fa haf haC hgs => ?_)
  refine Calls.spliced_nil ?_
  obtain ⟨W, ⟨m0, w0⟩, turn⟩ := q H2 tab
  subst hC
  have lt4 : ∀ b ∈ fp, b < s4.heap.objs.size := fun b hb => by
    obtain ⟨o, ho, _⟩ := T.obj _ _ st4 b hb
    exact Heap.lt_size ho
  have C5 : s4.heap.objs.size < s5.heap.objs.size := hns.lt
  have a5 : a < s5.heap.objs.size := by
    obtain ⟨o, nm, qn, ho, r⟩ := id hgen
    exact Heap.lt_size ho
  have st5lt : cStatics < s5.heap.objs.size := by
    obtain ⟨mc, hn, _⟩ := I5.nolimit
    exact hn.lt
  obtain ⟨ga, gnm, gqn, gho, gcl, gdt, gsl⟩ := id hgen
  refine call_sum_gen (m := m0 + 1) (Q := fun u s' => ∃ v H', Inv X pins σ H' s' ∧ RelV v u ∧ Q v H') hr.hd (by have := hr.dp; omega) hgen st5lt fun t tk => ?_
  have I6 : Inv X pins σ H2 { s5 with heap := s5.heap.push (ownL 0 t 0), toks := tk } := I5.kept (t' := tk) fun b o e => Heap.get?_push_of_some _ e
  have hS : (s5.heap.push (ownL 0 t 0)).get? s5.heap.objs.size = some (ownL 0 t 0) := Heap.get?_push_size _ rfl
  have fS : FpOk X pins H2 s5.heap.objs.size := I5.fpOk (Nat.le_refl _) (I5.hok.fresh (Nat.le_refl _))
  have keep6 : ∀ b o, s5.heap.get? b = some o → (s5.heap.push (ownL 0 t 0)).get? b = some o := fun b o e => Heap.get?_push_of_some _ e
  have Sfp : s5.heap.objs.size ∉ fp := fun z => absurd (Nat.lt_trans (lt4 _ z) C5) (Nat.lt_irrefl _)
  have aS : a ≠ s5.heap.objs.size := Nat.ne_of_lt a5
  have f2S : ∀ b ∈ s5.heap.objs.size :: fp, FpOk X pins H2 b := fun b hb => by
    rcases List.mem_cons.mp hb with rfl | hb
    · exact fS
    · exact f2 b hb
  have st6 : tn 0 (s5.heap.push (ownL 0 t 0)) := T.keep _ _ _ st5 fun b _ o e => keep6 b o e
  have fpt : ∀ {i : Nat} {h : Heap}, tn i h → (∃ tot t c, h.get? s5.heap.objs.size = some (ownL tot t c)) → ∀ b ∈ s5.heap.objs.size :: fp, ∃ o, h.get? b = some o ∧ ∀ v, o.data ≠ .cell v := fun {i h} ht hz b hb => by
    rcases List.mem_cons.mp hb with rfl | hb
    · obtain ⟨tot, t, c, e⟩ := hz
      exact ⟨_, e, fun v z => by cases z⟩
    · exact T.obj _ _ ht b hb
  generalize s5.heap.objs.size = S at *
  have rb : Room k (X.A.in1.in1.over (.compLoop (.GeneratorExp elt [⟨tg, iter, ifs, 0⟩] scope gpos) 0 (.ref it) .none (genEnv scope (cloFrom X.env.cells scope.names []) s4.heap.objs.size code builtinsNs X.env)) []) := ⟨hr.hd, by
    have := hr.dp
    show X.A.depth + 1 + 3 * k + 5 < recursionLimit
    omega, by
    have := hr.un
    show X.A.units + 5 + 16 * k + 200 < cLine
    omega⟩
  have start := gx_start (code := code) (it := .ref it) (own := own) (fp := S :: fp) (pn := [(a, ga)]) I4 I6 ok hN GS.cell hc (B := X.A.in1.in1.over (.compLoop (.GeneratorExp elt [⟨tg, iter, ifs, 0⟩] scope gpos) 0 (.ref it) .none (genEnv scope (cloFrom X.env.cells scope.names []) s4.heap.objs.size code builtinsNs X.env)) [])
    hr.hd (gx_frames rfl frames) (fun b hb => ⟨f2S b hb, by
      rcases List.mem_cons.mp hb with rfl | hb
      · exact Nat.ne_of_gt C5
      · exact Nat.ne_of_lt (lt4 b hb)⟩) (fun b o e => keep6 b o (keep b o e)) os (hns.push _) (fun p hp => by
      rw [List.mem_singleton.mp hp]
      refine ⟨keep6 _ _ gho, fa.1, haC, fun z => ?_, fun v z => ?_⟩
      · rcases List.mem_cons.mp (I4.stkSub a z) with z | z
        · exact fa.2.1 z
        · exact fa.2.2.1 z
      · rw [gdt] at z; cases z)
  have hgen6 : (s5.heap.push (ownL 0 t 0)).IsGen a gi := ⟨ga, gnm, gqn, keep6 _ _ gho, gcl, gdt, gsl⟩
  refine ⟨hgen6, I6.nolimit, I6.bare, _, hgs, rfl, seg_rg (seg_start (fun B Q E hq => T.self B 0 _ Q E st6 hq) (seg_loop rfl GS.co
    (fun m s₀ s => ∃ i H' tot t1 c1 t2 c2, Inv (gcx X (X.A.in1.in1.over (.compLoop (.GeneratorExp elt [⟨tg, iter, ifs, 0⟩] scope gpos) 0 (.ref it) .none (genEnv scope (cloFrom X.env.cells scope.names []) s4.heap.objs.size code builtinsNs X.env)) []) s4 H2 (genEnv scope (cloFrom X.env.cells scope.names []) s4.heap.objs.size code builtinsNs X.env) (S :: fp) [(a, ga)]) [] (wipe σ (own.map (·.2))) H' s ∧
      tn i s.heap ∧ (∀ b ∈ S :: fp, H' b = none) ∧ s₀.heap.get? S = some (ownL tot t1 c1) ∧ s.heap.get? S = some (ownL tot t2 c2) ∧ W i m tot H') ?_ m0 (m0 + 1) _ _ (Nat.lt_succ_self _) ⟨0, H2, 0, t, 0, t, 0, ?_, st6, fun b hb => (f2S b hb).1, hS, hS, w0⟩))⟩
  · generalize hBB : X.A.in1.in1.over (.compLoop (.GeneratorExp elt [⟨tg, iter, ifs, 0⟩] scope gpos) 0 (.ref it) .none (genEnv scope (cloFrom X.env.cells scope.names []) s4.heap.objs.size code builtinsNs X.env)) [] = B at rb ⊢
    have pg := target B s4 H2 s4.heap.objs.size code (S :: fp) [(a, ga)] rb
    have pt := tests B s4 H2 s4.heap.objs.size code (S :: fp) [(a, ga)] rb
    have pe := elem B s4 H2 s4.heap.objs.size code (S :: fp) [(a, ga)] rb
    have stat : ∀ {σ' : L2.St} {H' : Hp} {s' : Shared} {ps : List (Addr × Obj)}, Inv (gcx X B s4 H2 (genEnv scope (cloFrom X.env.cells scope.names []) s4.heap.objs.size code builtinsNs X.env) (S :: fp) [(a, ga)]) ps σ' H' s' → ∀ b ∈ S :: fp, H' b = none → (∀ p ∈ ps, p.1 ≠ b) → FpOk (gcx X B s4 H2 (genEnv scope (cloFrom X.env.cells scope.names []) s4.heap.objs.size code builtinsNs X.env) (S :: fp) [(a, ga)]) ps H' b := fun {σ' H' s' ps} J b hb hn hp =>
      ⟨hn, (J.ok.exf b hb).1, J.ok.exfs b hb, .inl hb, fun x c e => (J.ok.exf b hb).2 x c e, fun p hp' => by
        rcases List.mem_append.mp hp' with z | z
        · rw [List.mem_singleton.mp z]
          intro e
          rcases List.mem_cons.mp hb with e' | e'
          · exact aS (by rw [← e']; exact e)
          · exact haf (by rw [show a = b from e]; exact e')
        · exact hp p z⟩
    have inS : S ∈ S :: fp := List.mem_cons_self
    have inF : ∀ b ∈ fp, b ∈ S :: fp := fun b hb => List.mem_cons_of_mem _ hb
    rintro m s₀ s5' ⟨i, H5, tot, t1, c1, t2, c2, I5', st5', n5, k0, k5, w5⟩
    -- the list of the total stands through the turn
    have Ip := I5'.pinned (fp := [S]) (fun b hb => by rw [List.mem_singleton.mp hb]; exact stat I5' S inS (n5 S inS) (fun p hp => by cases hp)) (fun b hb => by rw [List.mem_singleton.mp hb]; exact ⟨_, k5, fun v z => by cases z⟩)
    have pS : (S, ownL tot t2 c2) ∈ ([] : List (Addr × Obj)) ++ pinsAt [S] s5'.heap := List.mem_append_right _ (mem_pinsAt (List.mem_singleton.mpr rfl) k5)
    have only : ∀ p ∈ ([] : List (Addr × Obj)) ++ pinsAt [S] s5'.heap, p.1 = S := fun p hp => by
      rcases List.mem_append.mp hp with z | z
      · cases z
      · exact List.mem_singleton.mp (of_pinsAt z).1
    have statF : ∀ {σ' : L2.St} {H' : Hp} {s' : Shared}, Inv (gcx X B s4 H2 (genEnv scope (cloFrom X.env.cells scope.names []) s4.heap.objs.size code builtinsNs X.env) (S :: fp) [(a, ga)]) (([] : List (Addr × Obj)) ++ pinsAt [S] s5'.heap) σ' H' s' → (∀ b ∈ fp, H' b = none) → ∀ b ∈ fp, FpOk (gcx X B s4 H2 (genEnv scope (cloFrom X.env.cells scope.names []) s4.heap.objs.size code builtinsNs X.env) (S :: fp) [(a, ga)]) (([] : List (Addr × Obj)) ++ pinsAt [S] s5'.heap) H' b := fun {σ' H' s'} J hn b hb =>
      stat J b (inF b hb) (hn b hb) fun p hp e => Sfp (by rw [← only p hp, e]; exact hb)
    rcases turn i m tot H5 w5 with ⟨stop_, qq⟩ | ⟨go, Nx, hNx, step⟩
    · refine thnF (T.done (gcx X B s4 H2 (genEnv scope (cloFrom X.env.cells scope.names []) s4.heap.objs.size code builtinsNs X.env) (S :: fp) [(a, ga)]) rfl rfl rfl hc i _ s5' _ H5 (fun _ _ => False) Ip (statF Ip fun b hb => n5 b (inF b hb)) st5' stop_) fun r s6 ⟨hr6, J6⟩ => ?_
      subst hr6
      exact ⟨J6.bare, tot, t1, c1, k0, fun s' ex t => ⟨.int tot, H5, gx_back I4 f2S J6 ex, ⟨t, rfl⟩, qq⟩⟩
    · refine thnF (T.item (gcx X B s4 H2 (genEnv scope (cloFrom X.env.cells scope.names []) s4.heap.objs.size code builtinsNs X.env) (S :: fp) [(a, ga)]) rfl rfl rfl hc i _ s5' _ H5 (fun _ _ => False) Ip (statF Ip fun b hb => n5 b (inF b hb)) st5' go) fun r s6 ⟨u, hr6, h6⟩ => ?_
      subst hr6
      refine thnF h6 fun _ s7 ⟨x, H7, J7, r7, y7, st7, n7⟩ => ?_
      have J7' := J7.pinned (statF J7 n7) (T.obj _ _ st7)
      refine thnF (pg.run _ s7 _ H7 x u _ J7' r7 (step x H7 y7)) fun _ s8 ⟨σ8, H8, J8, hw8, q8⟩ => ?_
      refine thnF (pt.run _ s8 σ8 H8 _ J8 q8) fun b s9 ⟨H9, J9, q9⟩ => ?_
      have ends : ∀ {s' : Shared} {H' : Hp} {tot' : Int}, Inv (gcx X B s4 H2 (genEnv scope (cloFrom X.env.cells scope.names []) s4.heap.objs.size code builtinsNs X.env) (S :: fp) [(a, ga)]) ((([] : List (Addr × Obj)) ++ pinsAt [S] s5'.heap) ++ pinsAt fp s7.heap) σ8 H' s' → Nx tot' H' → s'.heap.get? S = some (ownL tot t2 c2) ∧ ∃ m', m' < m ∧ ∃ i H', Inv (gcx X B s4 H2 (genEnv scope (cloFrom X.env.cells scope.names []) s4.heap.objs.size code builtinsNs X.env) (S :: fp) [(a, ga)]) [] (wipe σ (own.map (·.2))) H' s' ∧ tn i s'.heap ∧ (∀ b ∈ S :: fp, H' b = none) ∧ W i m' tot' H' := fun {s' H' tot'} J nx => by
        obtain ⟨m', less, w'⟩ := hNx tot' H' nx
        have zS := J.pin (S, ownL tot t2 c2) (List.mem_append_right _ (List.mem_append_left _ pS))
        have pin' : ∀ b ∈ fp, ∀ o, s7.heap.get? b = some o → s'.heap.get? b = some o ∧ H' b = none := fun b hb o e =>
          let z := J.pin (b, o) (List.mem_append_right _ (List.mem_append_right _ (mem_pinsAt hb e)))
          ⟨z.1, z.2.1⟩
        have hl : (wipe σ (own.map (·.2))).length = σ8.length := by rw [← hw8, wipe_length]
        refine ⟨zS.1, m', less, i + 1, H', ((J.unpinned (pins := ([] : List (Addr × Obj)) ++ pinsAt [S] s5'.heap)).unpinned (pins := [])).weak hl (fun j v e => ?_), T.keep _ _ _ st7 fun b hb o e => (pin' b hb o e).1, fun b hb => ?_, w'⟩
        · rw [← hw8] at e
          exact (wipe_some e).1
        · rcases List.mem_cons.mp hb with rfl | hb
          · exact zS.2.1
          · obtain ⟨o, e, _⟩ := T.obj _ _ st7 b hb
            exact (pin' b hb o e).2
      cases b with
      | false =>
        simp only [Bool.false_eq_true, if_false] at q9 ⊢
        obtain ⟨kS, m', less, i', H', J', tn', n', w'⟩ := ends J9 q9
        exact ⟨m', less, i', H', tot, t1, c1, t2, c2, J', tn', n', k0, kS, w'⟩
      | true =>
        simp only [if_true] at q9 ⊢
        refine thnF (pe.run _ s9 σ8 H9 _ J9 q9) fun z s10 ⟨yv, H10, J10, r10, b10, e10, f1, f2', q10⟩ => ?_
        subst e10
        obtain ⟨tz, r10⟩ : ∃ t, z = .int b10 t := r10
        obtain ⟨kS, m', less, i', H', J', tn', n', w'⟩ := ends J10 q10
        refine ⟨⟨b10, tz, tot, t1, c1, t2, c2, r10, f1, f2', k0, kS, ⟨ga, gnm, gqn, (J10.pin (a, ga) (by simp)).1, gcl, gdt, gsl⟩, J10.nolimit, J10.bare⟩, fun _ => ⟨m', less, fun s' hs' => ?_⟩⟩
        have z := hs' b10 tz r10
        obtain ⟨t3, c3, k3⟩ := z.own tot t2 c2 kS
        exact ⟨i', H', tot + b10, t3, c3, t3, c3, inv_slS J' z (stat J' S inS (n' S inS) fun p hp => by cases hp), T.keep _ _ _ tn' fun b hb o e => z.heap b o (fun q => Sfp (by rw [← q]; exact hb)) e, n', k3, k3, w'⟩
  · exact inv_sl start ⟨rfl, allBare_setGen I6.bare rfl, rfl⟩
end
end Gx
end PySem
namespace PySem
namespace Gx
open PySem.W PySem.Calls PyProof.Rows L2 GenW
/-- Pv: what is true ahead of each turn, with the total -/
theorem sum_walk {J : It} {n : Nat} {G : Hp → Prop} {Y : Nat → Hp → V → Hp → Prop} {g : TG} {tt : TT} {te : TE} {vs : List Nat} {σ : L2.St} {Hs : Hp} {Q : VK} (w : Walk J n G Y) (Pv : Nat → Int → Hp → Prop) (first : Pv 0 0 Hs) (stands : ∀ i t H, Pv i t H → G H)
    (turn : ∀ i t x H H', i < n → Pv i t H → Y i H x H' → g x (wipe σ vs) H' fun σ2 H2 => wipe σ2 vs = wipe σ vs ∧ tt σ2 H2 fun b H3 => if b = true then te σ2 H3 fun y H4 => ∃ c, y = .int c ∧ Fit c ∧ Fit (t + c) ∧ Pv (i + 1) (t + c) H4 else Pv (i + 1) t H3)
    (last : ∀ t H, Pv n t H → Q (.int t) H) : ∃ W : Nat → Nat → Int → Hp → Prop, (∃ m, W 0 m 0 Hs) ∧ ∀ i m tot H, W i m tot H →
      (J.stop i H ∧ Q (.int tot) H) ∨ (J.go i H ∧ ∃ Nx : Int → Hp → Prop, (∀ t' H', Nx t' H' → ∃ m', m' < m ∧ W (i + 1) m' t' H') ∧ ∀ x H', J.yld i H x H' → g x (wipe σ vs) H' fun σ2 H2 => wipe σ2 vs = wipe σ vs ∧ tt σ2 H2 fun b H3 =>
        if b = true then te σ2 H3 fun y H4 => ∃ c, y = .int c ∧ Fit c ∧ Fit (tot + c) ∧ Nx (tot + c) H4 else Nx tot H3) := by
  refine ⟨fun i left t H => i + left = n ∧ Pv i t H, ⟨n, Nat.zero_add n, first⟩, fun i left t H here => ?_⟩
  obtain ⟨count, now⟩ := here
  cases left with
  | zero =>
    obtain rfl : i = n := count
    exact .inl ⟨w.stops H (stands _ _ H now), last _ H now⟩
  | succ fewer =>
    have more : i < n := by omega
    exact .inr ⟨w.goes i H more (stands _ _ H now), Pv (i + 1), fun t' H' then_ => ⟨fewer, Nat.lt_succ_self fewer, by omega, then_⟩, fun x H' given => turn i t x H H' more now (w.yields i H x H' more (stands _ _ H now) given)⟩
end Gx
end PySem
namespace PySem
namespace Gx
open PySem PySem.W PySem.Calls PyProof.Rows L2 GenW
/-- the names of a generator expression, checked -/
theorem genS_by {env : Env} {scope : Scope} {x : Str} (h1 : scope.kind = .function) (h2 : scope.isCoroutine = false) (h3 : (scope.names.all fun y => match y.2 with | .cell => false | _ => true) = true) (h4 : scope.names.lookup (".0" : Str) = some NameKind.local)
    (h5 : scope.names.lookup x = some .local) (h6 : (scope.names.all fun y => match y.2 with | .free => (env.cells.lookup y.1).isSome | _ => true) = true) : GxR.GenS env scope x where
  kind := h1
  co := h2
  cell := fun y hy z => by
    have := List.all_eq_true.mp h3 y hy
    rw [z] at this
    cases this
  dot := h4
  loc := h5
  free := fun y hy z => by
    have := List.all_eq_true.mp h6 y hy
    rw [z] at this
    exact Option.isSome_iff_exists.mp this
end Gx
end PySem
namespace My
open PySem L2 PySem.Spec PyProof.Rows
theorem yesI {σ : L2.St} {H : Hp} {F : Bool → Hp → Prop} (h : F true H) : tYes σ H F := h
/-- a sum of tuples, wherever it stands -/
theorem catA_of {K : PySem.W.Frag} {H : Hp} {Q : VK} {a b : Addr} {xs ys : List V} (hx : SqT K H a xs) (hy : SqT K H b ys) (hl : xs.length + ys.length ≤ sizeLine) (k : ∀ p H', Same H H' → SqT K H' p (xs ++ ys) → Q (.ref p) H') : rCatA K (.ref a) (.ref b) H Q := by
  refine ⟨a, b, xs, ys, rfl, rfl, hx, hy, hl, fun e => ?_, fun _ e => ?_, fun _ _ p hp => k p _ (same_new hp) tHere⟩
  · subst e; exact k b H (Same.refl _) hy
  · subst e; exact k a H (Same.refl _) (by rw [List.append_nil]; exact hx)
theorem cut_whole {xs : List V} {lo hi : Option Int} (h : HT.sIx xs.length 0 lo = 0 ∧ HT.sIx xs.length xs.length hi = xs.length) : cutV xs lo hi = xs := by
  unfold cutV
  rw [h.1, h.2]
  simp
theorem slA_of {K : PySem.W.Frag} {H : Hp} {Q : VK} {a : Addr} {xs : List V} {lo hi : Option Int} (hx : SqT K H a xs) (k : ∀ p H', Same H H' → SqT K H' p (cutV xs lo hi) → Q (.ref p) H') : rSlA K (.ref a) lo hi H Q :=
  ⟨a, xs, rfl, hx, fun h => k a H (Same.refl _) (by rw [cut_whole h]; exact hx), fun _ p hp => k p _ (same_new hp) tHere⟩
/-- a def of which the code object is known -/
structure FunT (K : PySem.W.Frag) (x qual : Str) (st : Stmt) (f : Addr) (fd : FuncData) (c : Addr) : Prop where
  ex : ∃ (oc : Value) (od : Option Addr) (kV doc pm : Value) (an : Option Addr) (ct : Value) (osl : Array (Option Value)),
    fd = PySem.W.fnOf x qual (defArgs st) (defBody st) (defScope st) .none kV doc pm an (.ref c) ct ∧ K.lookup f = some ⟨oc, od, .func fd, osl⟩ ∧ PySem.W.codeIn K (.ref c) qual = true
  kp : PySem.W.keepIn K (.ref f) = true
theorem funT_mk {K : PySem.W.Frag} {x qual : Str} {st : Stmt} {f c : Addr} {oc : Value} {od an : Option Addr} {osl : Array (Option Value)} {kV doc pm cdv ct : Value} (l : K.lookup f = some ⟨oc, od, .func (PySem.W.fnOf x qual (defArgs st) (defBody st) (defScope st) .none kV doc pm an cdv ct), osl⟩)
    (h : PySem.W.codeIn K cdv qual = true) (k : PySem.W.keepIn K (.ref f) = true) (e : cdv = .ref c) : FunT K x qual st f (PySem.W.fnOf x qual (defArgs st) (defBody st) (defScope st) .none kV doc pm an cdv ct) c := by
  subst e
  exact ⟨⟨oc, od, kV, doc, pm, an, ct, osl, rfl, l, h⟩, k⟩
section
variable {P : Program} {w : World} {K : PySem.W.Frag} {mg : Str → Option Value} {base : Heap}
theorem FunT.ok {x qual : Str} {st : Stmt} {f c : Addr} {fd : FuncData} {N ps : List Str} {k : Nat} {sp : Sp} (F : FunT K x qual st f fd c) (S : FnScope N ps (defScope st)) (len : ∀ vs H Q E, sp vs H Q E → vs.length = ps.length)
    (hbody : ∀ (A : Around) (outer : List Env) (s : Shared) (H : Hp) (vs : List V) (Q : VK) (E : XK), Room k (A.deeper (envOfC qual (defScope st) s.heap.objs.size f (.ref c))) → sp vs H Q E →
      ∃ t, PSs (cxOf CX0 P w K mg base N qual (defScope st) f (.ref c) A outer s H E).nox (defBody st) t ∧ t { nx := fun _ H' => Q .non H', rt := Q } (start N vs) H) : FnOk P w K mg base CX0 (k + 1) f fd ps sp := by
  obtain ⟨oc, od, kV, doc, pm, an, ct, osl, rfl, lk, hcd⟩ := F.ex
  refine fn_of lk hcd S len fun A outer s H vs Q E hr hsp => ?_
  obtain ⟨t, h, q⟩ := hbody A outer s H vs Q E hr hsp
  exact ⟨t, h.nox, q⟩
end
/-- a def's code object and its table, from what stands in the part that is written out -/
theorem tabIn_of {K : PySem.W.Frag} {x : Str} {f c P : Addr} {oc t1 cdv : Value} {od t2 : Option Addr} {fd : FuncData} {osl t3 : Array (Option Value)} {vs : Array Value} (a : PySem.W.nsIn K mainGlobals x = some (some (.ref f))) (l : K.lookup f = some ⟨oc, od, .func fd, osl⟩) (hc : fd.code = cdv) (e : cdv = .ref c)
    (o : K.lookup c = some ⟨t1, t2, .fields vs, t3⟩) (v : (vs[11]? : Option Value) = some (.ref P)) : PySem.W.tabIn K x = some (c, P) := by
  unfold PySem.W.tabIn
  rw [a]
  show (match K.lookup f with | some ⟨_, _, .func fd, _⟩ => _ | _ => none) = _
  rw [l]
  show (match fd.code with | .ref c => _ | _ => none) = _
  rw [hc, e]
  show (match K.lookup c with | some ⟨_, _, .fields vs, _⟩ => _ | _ => none) = _
  rw [o]
  show (match (vs[11]? : Option Value) with | some (.ref P) => _ | _ => none) = _
  rw [v]
/-- a law with tables: what its promise asks -/
def spLawT (K : PySem.W.Frag) (ts : List Addr) : Sp := fun vs H Q _ => ∃ (a : Addr) (ns : List Int), vs = [.ref a] ∧ SqL K H a (ns.map V.int) ∧ ns.length ≤ 63 ∧ Tbs ts H ∧ ∀ H', Q (.bl true) H'
/-- what is known of the tables at the head -/
def TabsOf (q : Program) (K : PySem.W.Frag) (h : Heap) : Prop := ∀ (x : Str) (c P : Addr), ((recsOf q).any fun e => e.name == x) = true → PySem.W.tabIn K x = some (c, P) → PySem.W.CodeHd h c P ∧ h.get? P = some (PySem.W.tabObj #[])
theorem walkT {l : PySem.W.OpenLaw} {q : Program} {loose : List Str} {XP : (Str → Option Value) → Heap → Prop} {YP : World → Heap → Prop} {d : DefRec} {K : Params → PySem.W.Frag} {k : Nat} (hr : Room k callerA) (hn : l.most = some 63) (hdf : d.params.defaults = [])
    (hY : ∀ (w : World) (h : Heap), YP w h → (K w.params).In h)
    (F : ∀ (w : World) (mg : Str → Option Value) (fa : Addr) (h : Heap), TabsOf q (K w.params) h → (K w.params).In h → h.Ns mainGlobals mg → mg d.name = some (.ref fa) → LamX.LawAtS l w (K w.params) CX0 k 63 "script" mg fa h) :
    PySem.W.WalkO q loose XP YP l.row.toRowW d [] (fun f vs => PySem.call f vs) := by
  refine Att.attach_callB hn hdf fun w s₀ s₁ mg mb fa o pm cd doc a vs ns G Y ho hd hcd hmg hobj hints hlen hbits hg => ?_
  have KX := hY w _ Y
  obtain ⟨fd, cs, sp, hT, nT, C, hb, hsp, hF⟩ := F w mg fa _ (fun x c P hr ht => by
    obtain ⟨e, he⟩ := List.find?_isSome.mpr (List.any_eq_true.mp hr) |> Option.isSome_iff_exists.mp
    exact PySem.W.tab_of G.T KX he ht) KX G.T.g hmg
  exact LamX.law_callTs (CX := CX0) (k := k) (x := "script") KX G.T.g G.T.b G.T.builtins G.T.nolimit hg hT nT C G.T.bmain hobj hints (Nat.le_trans hlen (by decide)) hr hF hb (fun H hH hS => hsp H a ns hlen hbits hH hS) fun _ _ _ z => z
theorem tbs_nil {cs : List (Addr × Addr)} {ts : List Addr} {H : Hp} (e : cs.map (·.2) = ts) (h : ∀ p ∈ cs, H p.2 = some (.tbl #[])) : Tbs ts H := fun P hP => by
  subst e
  obtain ⟨p, hp, rfl⟩ := List.mem_map.mp hP
  exact ⟨#[], h p hp, True.intro⟩
end My
namespace My
open PySem L2
/-! ## looks, rules, styles as values -/
def betB (lo hi : Int) : V → Bool
  | .int i => decide (lo ≤ i) && decide (i ≤ hi)
  | _ => false
def LET : List Nat := (Str.ofString "abcdefghijklmnopqrstuvwxyz").cps.toList
def DIG : List Nat := (Str.ofString "0123456789").cps.toList
def headB : List Nat → Bool
  | c :: _ => decide (c ∈ LET)
  | [] => false
def nameB (s : Str) : Bool := (decide ((1 : Int) ≤ s.length) && decide ((s.length : Int) ≤ 12)) && (headB s.cps.toList && s.cps.toList.all fun c => decide (c ∈ LET) || decide (c ∈ DIG))
def nameV : V → Bool
  | .str s => nameB s
  | _ => false
def lookB : List V → Bool
  | [u, v] => betB 1 63 v && decide (u = .str "fill")
  | [u, v, x] => betB 1 63 v && ((decide (u = .str "stroke") || decide (u = .str "dot")) && betB 1 16 x)
  | _ => false
/-- the words that stand ahead -/
def lookU (xs : List V) : Prop := ∀ s r, xs = .str s :: r → s = "fill" ∨ s = "stroke" ∨ s = "dot" ∨ s = "paint"
def leV : V → V → Bool
  | .int i, .int j => decide (i ≤ j)
  | _, _ => false
def ruleB (k l m o : V) (c : Bool) : Bool := (nameV k || decide (k = .str "")) && (betB 0 6 l && (betB 0 6 m && (leV l m && (betB (-8) 8 o && c))))
section
variable {K : PySem.W.Frag} {H H' : Hp} {a p s D : Addr} {x v : V} {b c : Bool} {xs : List V} {o : HO}
/-- x is a value of which is_look is b -/
def LV (K : PySem.W.Frag) (H : Hp) (x : V) (b : Bool) : Prop := ∃ n, Ty K H x n ∧ (n = "tuple" → ∃ a xs, x = .ref a ∧ SqT K H a xs ∧ (∀ v ∈ xs, ∃ m, Ty K H v m) ∧ lookU xs ∧ b = lookB xs) ∧ (n ≠ "tuple" → b = false)
def RV (K : PySem.W.Frag) (H : Hp) (x : V) (b : Bool) : Prop := ∃ n, Ty K H x n ∧ (n = "tuple" → ∃ a xs, x = .ref a ∧ SqT K H a xs ∧ ((xs.length ≠ 5 ∧ b = false) ∨
  ∃ k l m o u c, xs = [k, l, m, o, u] ∧ (k = .non ∨ ∃ s : Str, k = .str s ∧ s.length ≤ 100) ∧ (∃ n, Ty K H l n) ∧ (∃ n, Ty K H m n) ∧ (∃ n, Ty K H o n) ∧ LV K H u c ∧ b = ruleB k l m o c)) ∧ (n ≠ "tuple" → b = false)
def StV (K : PySem.W.Frag) (H : Hp) (x : V) (b : Bool) : Prop := ∃ n, Ty K H x n ∧ (n = "tuple" → ∃ (a : Addr) (xs : List V) (bs : List Bool), x = .ref a ∧ SqT K H a xs ∧ xs.length ≤ 1000 ∧ bs.length = xs.length ∧
  (∀ (i : Nat) v c, xs[i]? = some v → bs[i]? = some c → RV K H v c) ∧ b = (decide ((xs.length : Int) ≤ 12) && bs.all id)) ∧ (n ≠ "tuple" → b = false)
theorem LV.same (e : Same H H') (h : LV K H x b) : LV K H' x b := by
  obtain ⟨n, t, h1, h2⟩ := h
  refine ⟨n, t.same e, fun q => ?_, h2⟩
  obtain ⟨a, xs, e1, e2, e3, e4⟩ := h1 q
  exact ⟨a, xs, e1, tSame e e2, fun v hv => (e3 v hv).imp fun _ h => h.same e, e4⟩
theorem RV.same (e : Same H H') (h : RV K H x b) : RV K H' x b := by
  obtain ⟨n, t, h1, h2⟩ := h
  refine ⟨n, t.same e, fun q => ?_, h2⟩
  obtain ⟨a, xs, e1, e2, e3⟩ := h1 q
  refine ⟨a, xs, e1, tSame e e2, e3.imp (fun z => z) ?_⟩
  rintro ⟨k, l, m, o, u, c, f1, f2, f3, f4, f5, f6, f7⟩
  exact ⟨k, l, m, o, u, c, f1, f2, f3.imp fun _ h => h.same e, f4.imp fun _ h => h.same e, f5.imp fun _ h => h.same e, f6.same e, f7⟩
/-- a good look -/
inductive Look : List V → Prop where
  | fill (c : Int) (h1 : 1 ≤ c) (h2 : c ≤ 63) : Look [.str "fill", .int c]
  | line (s : Str) (c w : Int) (hs : s = "stroke" ∨ s = "dot") (h1 : 1 ≤ c) (h2 : c ≤ 63) (h3 : 1 ≤ w) (h4 : w ≤ 16) : Look [.str s, .int c, .int w]
theorem two_ty {u v : V} {m n : String} (h1 : Ty K H u m) (h2 : Ty K H v n) : ∀ x ∈ [u, v], ∃ m, Ty K H x m := by
  intro x hx
  simp only [List.mem_cons, List.not_mem_nil, or_false] at hx
  rcases hx with rfl | rfl
  · exact ⟨_, h1⟩
  · exact ⟨_, h2⟩
theorem three_ty {u v z : V} {m n k : String} (h1 : Ty K H u m) (h2 : Ty K H v n) (h3 : Ty K H z k) : ∀ x ∈ [u, v, z], ∃ m, Ty K H x m := by
  intro x hx
  simp only [List.mem_cons, List.not_mem_nil, or_false] at hx
  rcases hx with rfl | rfl | rfl
  · exact ⟨_, h1⟩
  · exact ⟨_, h2⟩
  · exact ⟨_, h3⟩
theorem Look.ty (h : Look xs) : ∀ x ∈ xs, ∃ m, Ty K H x m := by
  cases h with
  | fill c _ _ => exact two_ty (.str _) (.int _)
  | line s c w _ _ _ _ _ => exact three_ty (.str _) (.int _) (.int _)
theorem Look.u (h : Look xs) : lookU xs := by
  intro s r e
  cases h with
  | fill c _ _ => injection e with e _; injection e with e; exact .inl e.symm
  | line z c w hs _ _ _ _ =>
    injection e with e _
    injection e with e
    subst e
    rcases hs with rfl | rfl
    · exact .inr (.inl rfl)
    · exact .inr (.inr (.inl rfl))
theorem betB_ok {lo hi i : Int} (h1 : lo ≤ i) (h2 : i ≤ hi) : betB lo hi (.int i) = true := by simp [betB, h1, h2]
theorem Look.ok (h : Look xs) : lookB xs = true := by
  cases h with
  | fill c h1 h2 => show (betB 1 63 (.int c) && decide _) = true; rw [betB_ok h1 h2]; rfl
  | line s c w hs h1 h2 h3 h4 =>
    show (betB 1 63 (.int c) && ((decide _ || decide _) && betB 1 16 (.int w))) = true
    rw [betB_ok h1 h2, betB_ok h3 h4]
    rcases hs with rfl | rfl <;> decide
theorem LV.of (h : SqT K H a xs) (hm : ∀ v ∈ xs, ∃ m, Ty K H v m) (hu : lookU xs) (e : lookB xs = b) : LV K H (.ref a) b := ⟨_, .tup h, fun _ => ⟨_, _, rfl, h, hm, hu, e.symm⟩, fun z => absurd rfl z⟩
theorem LV.good (h : SqT K H a xs) (g : Look xs) : LV K H (.ref a) true := .of h g.ty g.u g.ok
/-- a good rule -/
structure RuleAt (K : PySem.W.Frag) (H : Hp) (r : Addr) (k : Str) (l m o : Int) (u : Addr) (xs : List V) : Prop where
  r : SqT K H r [.str k, .int l, .int m, .int o, .ref u]
  u : SqT K H u xs
  look : Look xs
  k : k = "" ∨ k = "farm" ∨ k = "way" ∨ k = "pond"
  l0 : 0 ≤ l
  lm : l ≤ m
  m6 : m ≤ 6
  o1 : -8 ≤ o
  o2 : o ≤ 8
def RuleE (K : PySem.W.Frag) (H : Hp) (r : Addr) : Prop := ∃ k l m o u xs, RuleAt K H r k l m o u xs
theorem RuleE.same (e : Same H H') (h : RuleE K H a) : RuleE K H' a := by
  obtain ⟨k, l, m, o, u, xs, h⟩ := h
  exact ⟨k, l, m, o, u, xs, { h with r := tSame e h.r, u := tSame e h.u }⟩
theorem RuleE.but {b : Addr} (e : But s H H') (S : Strm H s b) (h : RuleE K H a) : RuleE K H' a := by
  obtain ⟨k, l, m, o, u, xs, h⟩ := h
  exact ⟨k, l, m, o, u, xs, { h with r := tButS e S h.r, u := tButS e S h.u }⟩
theorem RuleE.put (n : ∃ ys, H D = some (.lst ys)) (h : RuleE K H a) : RuleE K (upd H D o) a := by
  obtain ⟨k, l, m, o', u, xs, h⟩ := h
  exact ⟨k, l, m, o', u, xs, { h with r := tAt n h.r, u := tAt n h.u }⟩
theorem kind_ok {k : Str} (h : k = "" ∨ k = "farm" ∨ k = "way" ∨ k = "pond") : (nameV (.str k) || decide (V.str k = .str "")) = true ∧ k.length ≤ 100 := by
  rcases h with rfl | rfl | rfl | rfl <;> exact ⟨by decide +kernel, by decide +kernel⟩
theorem RuleE.rv (h : RuleE K H a) : RV K H (.ref a) true := by
  obtain ⟨k, l, m, o, u, xs, h⟩ := h
  refine ⟨_, .tup h.r, fun _ => ⟨_, _, rfl, h.r, .inr ⟨_, _, _, _, _, true, rfl, .inr ⟨_, rfl, (kind_ok h.k).2⟩, ⟨_, .int _⟩, ⟨_, .int _⟩, ⟨_, .int _⟩, .good h.u h.look, ?_⟩⟩, fun z => absurd rfl z⟩
  have := h.lm; have := h.l0; have := h.m6
  unfold ruleB
  rw [(kind_ok h.k).1, betB_ok h.l0 (show l ≤ 6 by omega), betB_ok (show 0 ≤ m by omega) h.m6, betB_ok h.o1 h.o2]
  simp [leV, h.lm]
theorem all_get {bs : List Bool} : bs.all id = true ↔ ∀ (i : Nat) c, bs[i]? = some c → c = true := by
  constructor
  · intro h i c e
    exact List.all_eq_true.mp h c (List.mem_of_getElem? e)
  · intro h
    rw [List.all_eq_true]
    intro c hc
    obtain ⟨i, e⟩ := List.getElem?_of_mem hc
    exact h i c e
/-- a tuple of good rules -/
theorem StV.good {rs : List Addr} (h : SqT K H a (rs.map V.ref)) (hr : ∀ r ∈ rs, RuleE K H r) (hl : rs.length ≤ 12) : StV K H (.ref a) true := by
  refine ⟨_, .tup h, fun _ => ⟨_, _, List.replicate rs.length true, rfl, h, by simp; omega, by simp, fun i v c e1 e2 => ?_, ?_⟩, fun z => absurd rfl z⟩
  · rw [List.getElem?_map] at e1
    obtain ⟨r, e3, rfl⟩ := Option.map_eq_some_iff.mp e1
    have : c = true := by
      have := List.mem_of_getElem? e2
      exact List.eq_of_mem_replicate this
    subst this
    exact (hr r (List.mem_of_getElem? e3)).rv
  · have e1 : decide (((rs.map V.ref).length : Int) ≤ 12) = true := decide_eq_true (by simp; omega)
    rw [e1, Bool.true_and]
    exact (List.all_eq_true.mpr fun x hx => List.eq_of_mem_replicate hx).symm
/-- one wrong rule -/
theorem StV.bad {us ws : List Addr} {v : V} (h : SqT K H a (us.map V.ref ++ v :: ws.map V.ref)) (hu : ∀ r ∈ us, RuleE K H r) (hv : RV K H v false) (hw : ∀ r ∈ ws, RuleE K H r) (h2 : us.length + ws.length ≤ 900) : StV K H (.ref a) false := by
  refine ⟨_, .tup h, fun _ => ⟨_, _, List.replicate us.length true ++ false :: List.replicate ws.length true, rfl, h, by simp; omega, by simp, fun i v' c e1 e2 => ?_, ?_⟩, fun z => absurd rfl z⟩
  · by_cases q : i < us.length
    · rw [List.getElem?_append_left (by simpa using q), List.getElem?_map] at e1
      rw [List.getElem?_append_left (by simpa using q)] at e2
      obtain ⟨r, e3, rfl⟩ := Option.map_eq_some_iff.mp e1
      have : c = true := List.eq_of_mem_replicate (List.mem_of_getElem? e2)
      subst this
      exact (hu r (List.mem_of_getElem? e3)).rv
    · rw [List.getElem?_append_right (by simp; omega)] at e1 e2
      simp only [List.length_map, List.length_replicate] at e1 e2
      generalize i - us.length = j at e1 e2
      cases j with
      | zero =>
        simp only [List.getElem?_cons_zero, Option.some.injEq] at e1 e2
        subst e1; subst e2
        exact hv
      | succ j =>
        simp only [List.getElem?_cons_succ] at e1 e2
        rw [List.getElem?_map] at e1
        obtain ⟨r, e3, rfl⟩ := Option.map_eq_some_iff.mp e1
        have : c = true := List.eq_of_mem_replicate (List.mem_of_getElem? e2)
        subst this
        exact (hw r (List.mem_of_getElem? e3)).rv
  · have e1 : (List.replicate us.length true ++ false :: List.replicate ws.length true).all id = false := by simp
    rw [e1, Bool.and_false]
theorem RV.bad {k l m o u : V} (h : SqT K H a [k, l, m, o, u]) (hk : k = .non ∨ ∃ s : Str, k = .str s ∧ s.length ≤ 100) (hl : ∃ n, Ty K H l n) (hm : ∃ n, Ty K H m n) (ho : ∃ n, Ty K H o n) (hu : LV K H u c) (e : ruleB k l m o c = false) : RV K H (.ref a) false :=
  ⟨_, .tup h, fun _ => ⟨_, _, rfl, h, .inr ⟨_, _, _, _, _, c, rfl, hk, hl, hm, ho, hu, e.symm⟩⟩, fun z => absurd rfl z⟩
theorem StV.same (e : Same H H') (h : StV K H x b) : StV K H' x b := by
  obtain ⟨n, t, h1, h2⟩ := h
  refine ⟨n, t.same e, fun q => ?_, h2⟩
  obtain ⟨a, xs, bs, e1, e2, e3, e4, e5, e6⟩ := h1 q
  exact ⟨a, xs, bs, e1, tSame e e2, e3, e4, fun i v c f1 f2 => (e5 i v c f1 f2).same e, e6⟩
/-! ## values that stay what they are while a stream is drawn -/
theorem sc_ty (h : xs.all (fun v => match v with | .int _ => true | .str _ => true | .bl _ => true | .non => true | _ => false) = true) : ∀ v ∈ xs, ∃ m, Ty K H v m := by
  intro v hv
  have := List.all_eq_true.mp h v hv
  cases v with
  | int i => exact ⟨_, .int i⟩
  | str z => exact ⟨_, .str z⟩
  | bl b => exact ⟨_, .bl b⟩
  | non => exact ⟨_, .non⟩
  | _ => cases this
def PB (R : Hp → V → Prop) (s : Addr) (H : Hp) (v : V) : Prop := ∀ H', But s H H' → R H' v
theorem PB.but {R : Hp → V → Prop} (h : PB R s H v) (e : But s H H') : PB R s H' v := fun H2 e2 => h H2 (e.trans e2)
theorem PB.here {R : Hp → V → Prop} (h : PB R s H v) : R H v := h H But.refl
structure BL (R : Hp → V → Prop) (H0 H : Hp) (s b : Addr) (vs : List V) : Prop where
  S : Strm H s b
  e : But s H0 H
  F : ∀ x ∈ vs, PB R s H x
theorem BL.nil {R : Hp → V → Prop} (S : Strm H s p) : BL R H H s p [] := ⟨S, But.refl, fun _ h => by cases h⟩
theorem BL.go {R : Hp → V → Prop} {H0 : Hp} {vs : List V} (h : BL R H0 H s p vs) (e : But s H H') (S : Strm H' s p) : BL R H0 H' s p vs := ⟨S, h.e.trans e, fun x hx => (h.F x hx).but e⟩
theorem BL.step {R : Hp → V → Prop} {H0 : Hp} {vs : List V} (h : BL R H0 H s p vs) (e : Same H H') (n : PB R s H' v) : BL R H0 H' s p (vs ++ [v]) := ⟨h.S.same e, h.e.then_same e, fun x hx => by
  rcases List.mem_append.mp hx with hx | hx
  · exact (h.F x hx).but (But.of_same e)
  · rw [List.mem_singleton] at hx
    subst hx
    exact n⟩
theorem BL.here {R : Hp → V → Prop} {H0 : Hp} {vs : List V} (h : BL R H0 H s p vs) (n : PB R s H v) : BL R H0 H s p (vs ++ [v]) := h.step (Same.refl _) n
theorem BL.over {R : Hp → V → Prop} {H0 : Hp} {vs : List V} {q : Addr} (h : BL R H0 H s p vs) (z : H q = none) : BL R H0 (upd H q o) s p vs := h.go (But.new z) (h.S.over z)
theorem cut_take {n : Nat} : cutV xs none (some (n : Int)) = xs.take n := by
  unfold cutV
  rw [show HT.sIx xs.length 0 none = 0 from rfl, HT.sIx_nat, List.drop_zero, Nat.sub_zero]
  rcases Nat.le_total n xs.length with q | q
  · rw [Nat.min_eq_left q]
  · rw [Nat.min_eq_right q, List.take_of_length_le q, List.take_of_length_le (Nat.le_refl _)]
theorem cut_drop {n : Nat} : cutV xs (some (n : Int)) none = xs.drop n := by
  unfold cutV
  rw [show HT.sIx xs.length xs.length none = xs.length from rfl, HT.sIx_nat]
  rcases Nat.le_total n xs.length with q | q
  · rw [Nat.min_eq_left q, List.take_of_length_le (by rw [List.length_drop]; exact Nat.le_refl _)]
  · rw [Nat.min_eq_right q, List.drop_of_length_le q, List.drop_of_length_le (Nat.le_refl _), List.take_nil]
theorem noPart {σ : L2.St} {k : Option Int → Hp → Prop} (h : k none H) : tNoPart σ H k := h
end
end My
namespace PySem
namespace Ord2
open PySem.W PySem.Calls PyProof.Rows
section
variable {prog : Program} {w : World} {A : Around} {E : Value → Shared → Prop} {s : Shared}
/-- the heap that stood, behind the tuple of the two -/
theorem kept2 {s : Shared} {o : Obj} : ∀ b u, s.heap.get? b = some u → (s.heap.push o).get? b = some u := fun _ _ e => Heap.get?_push_of_some _ e
/-- min(a, b) of two alike data: the first one, unless the second one is less -/
theorem min_two_data {a b : Value} {x y : PyData} {as bs : List Addr} {Q : Value → Shared → Prop} (hA : A.handled = none) (ra : Reads s.heap a x as) (rb : Reads s.heap b y bs) (al : AlikeAll [x, y]) (hu : A.units + 1 + PyData.depthAll [x, y] < cLine)
    (h : ∀ h' tk, (∀ c o, s.heap.get? c = some o → h'.get? c = some o) → Q (if dataLt y x = true then b else a) { s with heap := h', toks := tk }) : wpAny (model prog w) A (call (.builtin "min") [a, b]) Q E s := by
  have nm : (toString "min" ++ toString ".loop" : String) = "min.loop" := by decide
  have hT : (s.heap.push { cls := .type "tuple", data := .seq #[a, b] }).IsTuple s.heap.objs.size #[a, b] := ⟨_, Heap.get?_push_size _ rfl, rfl, 0, rfl⟩
  have rd : ReadsAll (s.heap.push { cls := .type "tuple", data := .seq #[a, b] }) (#[a, b] : Array Value).toList [x, y] (as ++ (bs ++ [])) := .cons (Reads.keeps kept2 ra) (.cons (Reads.keeps kept2 rb) .nil)
  refine call_function_tree F.kind_min F.plain_min F.entry_min (F.args_min2 _ _) ?_
  refine wpAny_bind (wpAny_of_eq (show Builtin.Builtins.bindParams "min" ["key", "default"] 0 ⟨[], []⟩ = pure [none, none] from rfl) ?_); show wpAny _ A.in1 (newTuple [a, b] >>= _) _ _ s
  refine wpAny_bind (wpAny_newObj_type (wpAny_bind (iter_tupleW (A := A.in1) (vs := #[a, b]) hA hT fun s₂ e W st hfp hw hk => ?_)))
  refine wpAny_bind (wpAny_newObj_type ?_)
  have nS : s₂.heap.objs.size ∉ [(s.heap.push { cls := .type "tuple", data := .seq #[a, b] }).objs.size, s.heap.objs.size] := fun hm => Nat.lt_irrefl _ (hfp _ hm)
  rw [nm]
  refine wpAny_pure ⟨plainId_quiet F.plain_min_loop _, codeAny_min_loop_firstH W (s.heap.push { cls := .type "tuple", data := .seq #[a, b] }) hw _ (cmpIn_lt (prog := prog) (w := w) (A := A.in1) (s := { s with heap := s.heap.push { cls := .type "tuple", data := .seq #[a, b] } }) (vs := #[a, b]) rd al (by show A.units + 1 + _ < _; exact hu)) s₂.heap.objs.size nS (fresh_in hk) _ (show 0 < 2 by decide)
    (fun c o q => Heap.get?_push_of_some _ (hk c o q)) (W.frame 0 s₂ _ s₂.toks st (Nat.le_refl _) fun c _ o q => Heap.get?_push_of_some _ q) (Heap.get?_push_size _ rfl) fun v s' hP hm => ?_⟩
  obtain ⟨h', tk, rfl, hk'⟩ := moved_old e rfl (Moved.drop_new (tk := s₂.toks) hm (Nat.le_refl _))
  have q := h h' tk fun c o z => hk' c o (kept2 c o z)
  have best : argBest (fun i j => dataLt (([x, y] : List PyData).getD i .none) (([x, y] : List PyData).getD j .none)) ((#[a, b] : Array Value).size - 1) = if dataLt y x = true then 1 else 0 := rfl
  rw [best] at hP
  by_cases c : dataLt y x = true
  · rw [if_pos c] at hP q
    obtain rfl : b = v := Option.some.inj hP
    exact q
  · rw [if_neg c] at hP q
    obtain rfl : a = v := Option.some.inj hP
    exact q
/-- max(a, b) of two alike data: the first one, unless the second one is greater -/
theorem max_two_data {a b : Value} {x y : PyData} {as bs : List Addr} {Q : Value → Shared → Prop} (hA : A.handled = none) (ra : Reads s.heap a x as) (rb : Reads s.heap b y bs) (al : AlikeAll [x, y]) (hu : A.units + 1 + PyData.depthAll [x, y] < cLine)
    (h : ∀ h' tk, (∀ c o, s.heap.get? c = some o → h'.get? c = some o) → Q (if dataLt x y = true then b else a) { s with heap := h', toks := tk }) : wpAny (model prog w) A (call (.builtin "max") [a, b]) Q E s := by
  have nm : (toString "max" ++ toString ".loop" : String) = "max.loop" := by decide
  have hT : (s.heap.push { cls := .type "tuple", data := .seq #[a, b] }).IsTuple s.heap.objs.size #[a, b] := ⟨_, Heap.get?_push_size _ rfl, rfl, 0, rfl⟩
  have rd : ReadsAll (s.heap.push { cls := .type "tuple", data := .seq #[a, b] }) (#[a, b] : Array Value).toList [x, y] (as ++ (bs ++ [])) := .cons (Reads.keeps kept2 ra) (.cons (Reads.keeps kept2 rb) .nil)
  refine call_function_tree F.kind_max F.plain_max F.entry_max (F.args_max2 _ _) ?_
  refine wpAny_bind (wpAny_of_eq (show Builtin.Builtins.bindParams "max" ["key", "default"] 0 ⟨[], []⟩ = pure [none, none] from rfl) ?_); show wpAny _ A.in1 (newTuple [a, b] >>= _) _ _ s
  refine wpAny_bind (wpAny_newObj_type (wpAny_bind (iter_tupleW (A := A.in1) (vs := #[a, b]) hA hT fun s₂ e W st hfp hw hk => ?_)))
  refine wpAny_bind (wpAny_newObj_type ?_)
  have nS : s₂.heap.objs.size ∉ [(s.heap.push { cls := .type "tuple", data := .seq #[a, b] }).objs.size, s.heap.objs.size] := fun hm => Nat.lt_irrefl _ (hfp _ hm)
  rw [nm]
  refine wpAny_pure ⟨plainId_quiet F.plain_max_loop _, codeAny_max_loop_firstH W (s.heap.push { cls := .type "tuple", data := .seq #[a, b] }) hw _ (cmpIn_gt (prog := prog) (w := w) (A := A.in1) (s := { s with heap := s.heap.push { cls := .type "tuple", data := .seq #[a, b] } }) (vs := #[a, b]) rd al (by show A.units + 1 + _ < _; exact hu)) s₂.heap.objs.size nS (fresh_in hk) _ (show 0 < 2 by decide)
    (fun c o q => Heap.get?_push_of_some _ (hk c o q)) (W.frame 0 s₂ _ s₂.toks st (Nat.le_refl _) fun c _ o q => Heap.get?_push_of_some _ q) (Heap.get?_push_size _ rfl) fun v s' hP hm => ?_⟩
  obtain ⟨h', tk, rfl, hk'⟩ := moved_old e rfl (Moved.drop_new (tk := s₂.toks) hm (Nat.le_refl _))
  have q := h h' tk fun c o z => hk' c o (kept2 c o z)
  have best : argBest (fun i j => dataLt (([x, y] : List PyData).getD j .none) (([x, y] : List PyData).getD i .none)) ((#[a, b] : Array Value).size - 1) = if dataLt x y = true then 1 else 0 := rfl
  rw [best] at hP
  by_cases c : dataLt x y = true
  · rw [if_pos c] at hP q
    obtain rfl : b = v := Option.some.inj hP
    exact q
  · rw [if_neg c] at hP q
    obtain rfl : a = v := Option.some.inj hP
    exact q
end
end Ord2
end PySem
namespace My
open PySem L2
/-- the order of points -/
def ltP (ax ay bx dy : Int) : Bool := decide (ax < bx ∨ (ax = bx ∧ ay < dy))
theorem OpR.of {X : Cx} {f : Value → Value → Sem Value} {r r' : R2} (h : OpR X f r) (w : ∀ x y H Q, r' x y H Q → r x y H Q) : OpR X f r' := by
  intro pins s σ H x y v u Q I rx ry q
  exact h pins s σ H x y v u Q I rx ry (w x y H Q q)
def pD (x y : Int) : PyData := .tuple [.int x, .int y]
theorem dP {K : PySem.W.Frag} {H : Hp} {a : Addr} {x y : Int} (h : SqT K H a [.int x, .int y]) : Dp K H (.ref a) (pD x y) := .tup h (.cons (.int _) (.cons (.int _) .nil))
theorem alikeP (ax ay bx dy : Int) : PySem.W.AlikeAll [pD ax ay, pD bx dy] := by
  unfold PySem.W.AlikeAll pD
  simp [PySem.W.alike, PySem.W.alikeAll]
theorem depthP (ax ay bx dy : Int) : PyData.depthAll [pD ax ay, pD bx dy] ≤ 8 := by
  unfold pD
  simp [PyData.depthAll, PyData.depth]
/-- two points, what is asked of a function of their numbers -/
def rPP (K : PySem.W.Frag) (f : Int → Int → Int → Int → V) : R2 := fun x y H Q => ∃ (a b : Addr) (ax ay bx dy : Int), x = .ref a ∧ y = .ref b ∧ SqT K H a [.int ax, .int ay] ∧ SqT K H b [.int bx, .int dy] ∧ Q (f ax ay bx dy) H
theorem lexLt2 (ax ay bx dy : Int) : HT.lexLt [ax, ay] [bx, dy] = ltP ax ay bx dy := by
  unfold ltP HT.lexLt HT.lexLt HT.lexLt
  by_cases h : ax = bx
  · subst h
    rw [if_pos rfl]
    by_cases g : ay = dy
    · subst g; rw [if_pos rfl]; simp
    · rw [if_neg g]; simp
  · rw [if_neg h]; simp [h]
theorem op_ltP {X : Cx} (hu : X.A.units < cLine) : OpR X (compareOp .Lt) (rPP X.K fun ax ay bx dy => .bl (ltP ax ay bx dy)) :=
  OpR.of (op_ltT hu) fun x y H Q ⟨a, b, ax, ay, bx, dy, e1, e2, ha, hb, q⟩ => ⟨a, b, [ax, ay], [bx, dy], e1, e2, ha, hb, by rw [lexLt2]; exact q⟩
theorem op_leP {X : Cx} (hu : X.A.units < cLine) : OpR X (compareOp .LtE) (rPP X.K fun ax ay bx dy => .bl (!ltP bx dy ax ay)) :=
  OpR.of (op_leT hu) fun x y H Q ⟨a, b, ax, ay, bx, dy, e1, e2, ha, hb, q⟩ => ⟨a, b, [ax, ay], [bx, dy], e1, e2, ha, hb, by
    have e : Ob.lexAt (fun j => decide (([ax, ay] : List Int).getD j 0 = ([bx, dy] : List Int).getD j 0)) (fun j => decide (([ax, ay] : List Int).getD j 0 ≤ ([bx, dy] : List Int).getD j 0)) (decide (([ax, ay] : List Int).length ≤ ([bx, dy] : List Int).length)) 0 (min ([ax, ay] : List Int).length ([bx, dy] : List Int).length) = !ltP bx dy ax ay := by
      show (if decide (ax = bx) = true then (if decide (ay = dy) = true then true else decide (ay ≤ dy)) else decide (ax ≤ bx)) = _
      unfold ltP
      by_cases h : ax = bx
      · subst h
        by_cases g : ay = dy
        · subst g; simp
        · have : decide (ay ≤ dy) = !decide (dy < ay) := by
            by_cases z : ay ≤ dy
            · rw [decide_eq_true z, decide_eq_false (by omega)]; rfl
            · rw [decide_eq_false z, decide_eq_true (by omega)]; rfl
          simp [g, this]
      · by_cases z : ax ≤ bx
        · have : ¬ bx < ax := by omega
          have h2 : ¬ bx = ax := fun e => h e.symm
          simp [h, z, this, h2]
        · have : bx < ax := by omega
          simp [h, z, this]
    rw [e]; exact q⟩
theorem eqvP (ax ay bx dy : Int) : PyData.eqv (pD ax ay) (pD bx dy) = decide (ax = bx ∧ ay = dy) := by
  unfold pD
  simp [PyData.eqv, PyData.eqvAll]
  by_cases h : ax = bx <;> by_cases g : ay = dy <;> simp [h, g]
theorem op_eqP {X : Cx} (hu : X.A.units + 64 < cLine) : OpR X (compareOp .Eq) (rPP X.K fun ax ay bx dy => .bl (decide (ax = bx ∧ ay = dy))) :=
  OpR.of (op_eqD hu) fun x y H Q ⟨a, b, ax, ay, bx, dy, e1, e2, ha, hb, q⟩ => by subst e1 e2; exact ⟨_, _, dP ha, dP hb, rfl, rfl, by rw [eqvP]; exact q⟩
theorem op_neP {X : Cx} (hu : X.A.units + 64 < cLine) : OpR X (compareOp .NotEq) (rPP X.K fun ax ay bx dy => .bl (!decide (ax = bx ∧ ay = dy))) :=
  OpR.of (op_neD hu) fun x y H Q ⟨a, b, ax, ay, bx, dy, e1, e2, ha, hb, q⟩ => by subst e1 e2; exact ⟨_, _, dP ha, dP hb, rfl, rfl, by rw [eqvP]; exact q⟩
/-- min, max of two points -/
def rMM (K : PySem.W.Frag) (f : Int → Int → Int → Int → Bool) : List V → Hp → VK → Prop := fun xs H Q => ∃ (a b : Addr) (ax ay bx dy : Int), xs = [.ref a, .ref b] ∧ SqT K H a [.int ax, .int ay] ∧ SqT K H b [.int bx, .int dy] ∧
  Q (.ref (if f ax ay bx dy = true then b else a)) H
theorem call_minP {X : Cx} (hc : X.calm = true) (hu : X.A.units + 64 < cLine) : CallR X (.builtin "min") (rMM X.K fun ax ay bx dy => ltP bx dy ax ay) := by
  intro pins s σ H xs us Q I r h
  obtain ⟨a, b, ax, ay, bx, dy, rfl, ha, hb, q⟩ := h
  obtain ⟨u, v, rfl, ru, rv⟩ := vals2 r
  obtain rfl : u = Value.ref a := ru
  obtain rfl : v = Value.ref b := rv
  obtain ⟨as, r1⟩ := Dp.reads I _ _ (.ref a) (dP ha) rfl
  obtain ⟨bs, r2⟩ := Dp.reads I _ _ (.ref b) (dP hb) rfl
  refine Ord2.min_two_data (I.ok.hd hc) r1 r2 (alikeP ..) (by have := depthP ax ay bx dy; omega) fun h' tk k => ⟨_, H, I.kept k, ?_, q⟩
  show _ = Value.ref _
  rw [show PySem.W.dataLt (pD bx dy) (pD ax ay) = ltP bx dy ax ay from PySem.W.dataLt_ii ..]
  split <;> rfl
theorem call_maxP {X : Cx} (hc : X.calm = true) (hu : X.A.units + 64 < cLine) : CallR X (.builtin "max") (rMM X.K fun ax ay bx dy => ltP ax ay bx dy) := by
  intro pins s σ H xs us Q I r h
  obtain ⟨a, b, ax, ay, bx, dy, rfl, ha, hb, q⟩ := h
  obtain ⟨u, v, rfl, ru, rv⟩ := vals2 r
  obtain rfl : u = Value.ref a := ru
  obtain rfl : v = Value.ref b := rv
  obtain ⟨as, r1⟩ := Dp.reads I _ _ (.ref a) (dP ha) rfl
  obtain ⟨bs, r2⟩ := Dp.reads I _ _ (.ref b) (dP hb) rfl
  refine Ord2.max_two_data (I.ok.hd hc) r1 r2 (alikeP ..) (by have := depthP ax ay bx dy; omega) fun h' tk k => ⟨_, H, I.kept k, ?_, q⟩
  show _ = Value.ref _
  rw [show PySem.W.dataLt (pD ax ay) (pD bx dy) = ltP ax ay bx dy from PySem.W.dataLt_ii ..]
  split <;> rfl
end My
namespace My
/-! ## a point and a segment: v from end to end, u from the first end to the point -/
theorem low_le {n1 d1 n2 d2 N1 D1 N2 D2 : Int} (L1 : LowOk n1 d1 N1 D1) (L2 : LowOk n2 d2 N2 D2) (p1 : 0 < d1) (p2 : 0 < d2) (h : n1 * d2 ≤ n2 * d1) : N1 * D2 ≤ N2 * D1 := by
  obtain ⟨⟨g1, _, e1, e2⟩, q1, _⟩ := L1
  obtain ⟨⟨g2, _, e3, e4⟩, q2, _⟩ := L2
  have g1p : 0 < g1 := by
    rcases Int.lt_or_le 0 g1 with z | z
    · exact z
    · have := Int.mul_nonpos_of_nonpos_of_nonneg z (Int.le_of_lt q1); omega
  have g2p : 0 < g2 := by
    rcases Int.lt_or_le 0 g2 with z | z
    · exact z
    · have := Int.mul_nonpos_of_nonpos_of_nonneg z (Int.le_of_lt q2); omega
  have gg := Int.mul_pos g1p g2p
  have h1 : g1 * g2 * (N1 * D2) ≤ g1 * g2 * (N2 * D1) := by
    have a1 : g1 * g2 * (N1 * D2) = n1 * d2 := by rw [e1, e4]; grind
    have a2 : g1 * g2 * (N2 * D1) = n2 * d1 := by rw [e3, e2]; grind
    omega
  exact Int.le_of_mul_le_mul_left h1 gg
/-- how far the point is from the place n / d of the way, times d, squared -/
def gapN (ux uy vx vy n d : Int) : Int := (ux * d - n * vx) * (ux * d - n * vx) + (uy * d - n * vy) * (uy * d - n * vy)
def sq (vx vy : Int) : Int := vx * vx + vy * vy
def dot (ux uy vx vy : Int) : Int := ux * vx + uy * vy
def crs (ux uy vx vy : Int) : Int := vx * uy - vy * ux
def clamp (al s : Int) : Int := if s < (if 0 > al then 0 else al) then s else (if 0 > al then 0 else al)
theorem sq_nn (x : Int) : 0 ≤ x * x := by
  rcases Int.le_total 0 x with h | h
  · exact Int.mul_nonneg h h
  · exact Int.mul_nonneg_of_nonpos_of_nonpos h h
theorem sq_pos {vx vy : Int} (h : vx ≠ 0 ∨ vy ≠ 0) : 0 < sq vx vy := by
  unfold sq
  have a := sq_nn vx
  have b := sq_nn vy
  rcases h with h | h
  · have : vx * vx ≠ 0 := Int.mul_ne_zero h h
    omega
  · have : vy * vy ≠ 0 := Int.mul_ne_zero h h
    omega
/-! ### on the segment -/
/-- by the order of points -/
def onB (ux uy vx vy : Int) : Bool := decide (crs ux uy vx vy = 0) && (!ltP ux uy 0 0 && !ltP vx vy ux uy)
/-- by the ranges -/
def boxB (ux uy vx vy : Int) : Bool := decide (crs ux uy vx vy = 0) && ((decide ((if vx < 0 then vx else 0) ≤ ux) && decide (ux ≤ (if vx > 0 then vx else 0))) && (decide ((if vy < 0 then vy else 0) ≤ uy) && decide (uy ≤ (if vy > 0 then vy else 0))))
/-- on the line: between the ends exactly if the product is -/
theorem on_line {ux uy vx vy : Int} (hl : ltP 0 0 vx vy = true) (ht : crs ux uy vx vy = 0) :
    ((!ltP ux uy 0 0 && !ltP vx vy ux uy) = true ↔ 0 ≤ dot ux uy vx vy ∧ dot ux uy vx vy ≤ sq vx vy) ∧
    (((decide ((if vx < 0 then vx else 0) ≤ ux) && decide (ux ≤ (if vx > 0 then vx else 0))) && (decide ((if vy < 0 then vy else 0) ≤ uy) && decide (uy ≤ (if vy > 0 then vy else 0)))) = true ↔ 0 ≤ dot ux uy vx vy ∧ dot ux uy vx vy ≤ sq vx vy) := by
  have hv : 0 < vx ∨ (0 = vx ∧ 0 < vy) := of_decide_eq_true hl
  have ht : vx * uy = vy * ux := by unfold crs at ht; omega
  have hs : 0 < sq vx vy := sq_pos (by omega)
  rcases hv with hv | ⟨rfl, hv⟩
  · -- it goes to the right
    have e : sq vx vy * ux = dot ux uy vx vy * vx := by
      unfold sq dot
      have : vy * (vx * uy) = vy * (vy * ux) := by rw [ht]
      grind
    have k1 : 0 ≤ dot ux uy vx vy ↔ 0 ≤ ux := by
      constructor
      · intro h
        have := Int.mul_nonneg h (Int.le_of_lt hv)
        rw [← e] at this
        exact Int.nonneg_of_mul_nonneg_right this hs
      · intro h
        have := Int.mul_nonneg (Int.le_of_lt hs) h
        rw [e] at this
        exact Int.nonneg_of_mul_nonneg_left this hv
    have k2 : dot ux uy vx vy ≤ sq vx vy ↔ ux ≤ vx := by
      constructor
      · intro h
        have := Int.mul_le_mul_of_nonneg_right h (Int.le_of_lt hv)
        rw [← e] at this
        exact Int.le_of_mul_le_mul_left this hs
      · intro h
        have := Int.mul_le_mul_of_nonneg_left h (Int.le_of_lt hs)
        rw [e] at this
        exact Int.le_of_mul_le_mul_right this hv
    rw [k1, k2]
    have z0 : ux = 0 → uy = 0 := fun z => by
      rw [z, Int.mul_zero] at ht
      rcases Int.mul_eq_zero.mp ht with q | q <;> omega
    have z1 : ux = vx → uy = vy := fun z => by
      rw [z, Int.mul_comm vy vx] at ht
      exact Int.eq_of_mul_eq_mul_left (by omega) ht
    refine ⟨?_, ?_⟩
    · unfold ltP
      simp only [Bool.and_eq_true, Bool.not_eq_true', decide_eq_false_iff_not]
      omega
    · simp only [Bool.and_eq_true, decide_eq_true_eq]
      constructor
      · rintro ⟨⟨h1, h2⟩, _⟩
        rw [if_neg (by omega)] at h1
        rw [if_pos (by omega)] at h2
        exact ⟨h1, h2⟩
      · rintro ⟨h1, h2⟩
        refine ⟨⟨by rw [if_neg (by omega)]; exact h1, by rw [if_pos (by omega)]; exact h2⟩, ?_⟩
        rcases Int.lt_trichotomy vy 0 with y | y | y
        · have a1 : vy * ux ≤ 0 := Int.mul_nonpos_of_nonpos_of_nonneg (by omega) h1
          have a2 : vy * vx ≤ vy * ux := Int.mul_le_mul_of_nonpos_left (by omega) h2
          have a3 : uy ≤ 0 := by
            rcases Int.le_total uy 0 with q | q
            · exact q
            · rcases Int.lt_or_le 0 uy with r | r
              · have := Int.mul_pos hv r; omega
              · exact r
          have a4 : vy ≤ uy := by
            have : vx * vy ≤ vx * uy := by rw [ht, Int.mul_comm vx vy]; exact a2
            exact Int.le_of_mul_le_mul_left this hv
          rw [if_pos y, if_neg (by omega)]
          exact ⟨a4, a3⟩
        · have : uy = 0 := by
            rw [y, Int.zero_mul] at ht
            rcases Int.mul_eq_zero.mp ht with q | q <;> omega
          rw [if_neg (by omega), if_neg (by omega)]
          omega
        · have a1 : 0 ≤ vy * ux := Int.mul_nonneg (by omega) h1
          have a2 : vy * ux ≤ vy * vx := Int.mul_le_mul_of_nonneg_left h2 (by omega)
          have a3 : 0 ≤ uy := by
            rcases Int.lt_or_le uy 0 with r | r
            · have := Int.mul_neg_of_pos_of_neg hv r; omega
            · exact r
          have a4 : uy ≤ vy := by
            have : vx * uy ≤ vx * vy := by rw [ht, Int.mul_comm vx vy]; exact a2
            exact Int.le_of_mul_le_mul_left this hv
          rw [if_neg (by omega), if_pos y]
          exact ⟨a3, a4⟩
  · -- it goes up
    have u0 : ux = 0 := by
      rw [Int.zero_mul] at ht
      rcases Int.mul_eq_zero.mp ht.symm with q | q <;> omega
    subst u0
    have d1 : dot 0 uy 0 vy = uy * vy := by unfold dot; omega
    have d2 : sq 0 vy = vy * vy := by unfold sq; omega
    rw [d1, d2]
    have k1 : 0 ≤ uy * vy ↔ 0 ≤ uy := by
      constructor
      · intro h; exact Int.nonneg_of_mul_nonneg_left h hv
      · intro h; exact Int.mul_nonneg h (by omega)
    have k2 : uy * vy ≤ vy * vy ↔ uy ≤ vy := by
      constructor
      · intro h; exact Int.le_of_mul_le_mul_right h hv
      · intro h; exact Int.mul_le_mul_of_nonneg_right h (by omega)
    rw [k1, k2]
    refine ⟨?_, ?_⟩
    · clear k1 k2 d1 d2 hs
      unfold ltP
      simp only [Bool.and_eq_true, Bool.not_eq_true', decide_eq_false_iff_not]
      simp only [true_and]
      omega
    · simp only [Bool.and_eq_true, decide_eq_true_eq]
      rw [if_neg (show ¬ vy < 0 by omega), if_pos (show vy > 0 by omega)]
      simp
theorem on_same {ux uy vx vy : Int} (hv : ltP 0 0 vx vy = true) : onB ux uy vx vy = boxB ux uy vx vy := by
  unfold onB boxB
  by_cases ht : crs ux uy vx vy = 0
  · obtain ⟨k1, k2⟩ := on_line hv ht
    rw [decide_eq_true ht, Bool.true_and, Bool.true_and]
    exact Bool.eq_iff_iff.mpr (k1.trans k2.symm)
  · rw [decide_eq_false ht, Bool.false_and, Bool.false_and]
end My
namespace My
open PySem L2
theorem ltP_sub (ax ay bx dy cx cy : Int) : ltP (ax - cx) (ay - cy) (bx - cx) (dy - cy) = ltP ax ay bx dy := by
  unfold ltP
  exact decide_eq_decide.mpr (by omega)
theorem ltP_sub0 (ax ay cx cy : Int) : ltP (ax - cx) (ay - cy) 0 0 = ltP ax ay cx cy := by
  unfold ltP
  exact decide_eq_decide.mpr (by omega)
theorem ltP_0sub (ax ay cx cy : Int) : ltP 0 0 (ax - cx) (ay - cy) = ltP cx cy ax ay := by
  unfold ltP
  exact decide_eq_decide.mpr (by omega)
/-- on the segment, told by the program -/
def onI (ax ay bx dy px py : Int) : Bool := decide (turnI ax ay bx dy px py = 0) && (!ltP px py ax ay && !ltP bx dy px py)
/-- on the segment, told by the law -/
def boxI (ax ay bx dy px py : Int) : Bool := decide (turnI ax ay bx dy px py = 0) && ((decide ((if bx < ax then bx else ax) ≤ px) && decide (px ≤ (if bx > ax then bx else ax))) && (decide ((if dy < ay then dy else ay) ≤ py) && decide (py ≤ (if dy > ay then dy else ay))))
theorem onI_B (ax ay bx dy px py : Int) : onI ax ay bx dy px py = onB (px - ax) (py - ay) (bx - ax) (dy - ay) := by
  unfold onI onB
  rw [ltP_sub0, ltP_sub]
  rfl
theorem boxI_B (ax ay bx dy px py : Int) : boxI ax ay bx dy px py = boxB (px - ax) (py - ay) (bx - ax) (dy - ay) := by
  have e1 : ∀ a b p : Int, decide ((if b < a then b else a) ≤ p) = decide ((if b - a < 0 then b - a else 0) ≤ p - a) := fun a b p => decide_eq_decide.mpr (by split <;> split <;> omega)
  have e2 : ∀ a b p : Int, decide (p ≤ (if b > a then b else a)) = decide (p - a ≤ (if b - a > 0 then b - a else 0)) := fun a b p => decide_eq_decide.mpr (by split <;> split <;> omega)
  unfold boxI boxB
  rw [e1 ax bx px, e2 ax bx px, e1 ay dy py, e2 ay dy py]
  rfl
theorem onI_box {ax ay bx dy px py : Int} (h : ltP ax ay bx dy = true) : onI ax ay bx dy px py = boxI ax ay bx dy px py := by
  rw [onI_B, boxI_B]
  exact on_same (by rw [ltP_0sub]; exact h)
/-- the numbers of a point of the map, from another one -/
theorem On.d {ax ay px py : Int} (h : On px py) (g : On ax ay) : ((px - ax).natAbs ≤ 2 ^ 11 ∧ (py - ay).natAbs ≤ 2 ^ 11) := by unfold On at h g; omega
theorem sq_le {vx vy : Int} (h : vx.natAbs ≤ 2 ^ 11 ∧ vy.natAbs ≤ 2 ^ 11) : (sq vx vy).natAbs ≤ 2 ^ 23 := add_le (mul_le h.1 h.1) (mul_le h.2 h.2)
theorem dot_le {ux uy vx vy : Int} (h : ux.natAbs ≤ 2 ^ 11 ∧ uy.natAbs ≤ 2 ^ 11) (g : vx.natAbs ≤ 2 ^ 11 ∧ vy.natAbs ≤ 2 ^ 11) : (dot ux uy vx vy).natAbs ≤ 2 ^ 23 := add_le (mul_le h.1 g.1) (mul_le h.2 g.2)
theorem clamp_le {al s : Int} (h : al.natAbs ≤ 2 ^ 23) (g : s.natAbs ≤ 2 ^ 23) : (clamp al s).natAbs ≤ 2 ^ 23 := by
  unfold clamp
  split <;> split at * <;> omega
theorem gap_le {ux uy vx vy n d : Int} (h : ux.natAbs ≤ 2 ^ 11 ∧ uy.natAbs ≤ 2 ^ 11) (g : vx.natAbs ≤ 2 ^ 11 ∧ vy.natAbs ≤ 2 ^ 11) (hn : n.natAbs ≤ 2 ^ 23) (hd : d.natAbs ≤ 2 ^ 23) :
    (ux * d - n * vx).natAbs ≤ 2 ^ 35 ∧ (uy * d - n * vy).natAbs ≤ 2 ^ 35 ∧ (gapN ux uy vx vy n d).natAbs ≤ 2 ^ 71 := by
  have e1 : (ux * d - n * vx).natAbs ≤ 2 ^ 35 := sub_le (x := 34) (mul_le (x := 11) (y := 23) h.1 hd) (mul_le (x := 23) (y := 11) hn g.1)
  have e2 : (uy * d - n * vy).natAbs ≤ 2 ^ 35 := sub_le (x := 34) (mul_le (x := 11) (y := 23) h.2 hd) (mul_le (x := 23) (y := 11) hn g.2)
  exact ⟨e1, e2, add_le (x := 70) (mul_le (x := 35) (y := 35) e1 e1) (mul_le (x := 35) (y := 35) e2 e2)⟩
theorem m64 {i : Int} {x : Nat} (h : i.natAbs ≤ 2 ^ x) (hx : x ≤ 63 := by decide) : -(2 ^ 64) < i ∧ i < 2 ^ 64 := by
  have : i.natAbs ≤ 2 ^ 63 := Nat.le_trans h (Nat.pow_le_pow_right (by decide) hx)
  omega
theorem ltP_ne {ax ay bx dy : Int} (h : ltP ax ay bx dy = true) : bx - ax ≠ 0 ∨ dy - ay ≠ 0 := by
  have := of_decide_eq_true h
  omega
/-- a segment at an address -/
structure SegAt (K : PySem.W.Frag) (H : Hp) (g a c : Addr) (ax ay bx dy : Int) : Prop where
  g : SqT K H g [.ref a, .ref c]
  a : SqT K H a [.int ax, .int ay]
  c : SqT K H c [.int bx, .int dy]
  oa : On ax ay
  oc : On bx dy
  lt : ltP ax ay bx dy = true
theorem SegAt.same {K : PySem.W.Frag} {H H' : Hp} {g a c : Addr} {ax ay bx dy : Int} (e : Same H H') (h : SegAt K H g a c ax ay bx dy) : SegAt K H' g a c ax ay bx dy := { h with g := tSame e h.g, a := tSame e h.a, c := tSame e h.c }
theorem SegAt.but {K : PySem.W.Frag} {H H' : Hp} {s b g a c : Addr} {ax ay bx dy : Int} (e : But s H H') (S : Strm H s b) (h : SegAt K H g a c ax ay bx dy) : SegAt K H' g a c ax ay bx dy := { h with g := tButS e S h.g, a := tButS e S h.a, c := tButS e S h.c }
end My
namespace My
open PySem L2
/-! ## the rest of the order of points: >, sorted -/
theorem op_gtP {X : Cx} (hu : X.A.units + 64 < cLine) : OpR X (compareOp .Gt) (rPP X.K fun ax ay bx dy => .bl (ltP bx dy ax ay)) := by
  intro pins s σ H x y v u Q I rx ry h
  obtain ⟨a, b, ax, ay, bx, dy, rfl, rfl, ha, hb, q⟩ := h
  obtain ⟨as, r1⟩ := Dp.reads I _ _ _ (dP ha) rx
  obtain ⟨bs, r2⟩ := Dp.reads I _ _ _ (dP hb) ry
  have al : PySem.W.alike (pD ax ay) (pD bx dy) = true := by
    unfold pD
    simp [PySem.W.alike, PySem.W.alikeAll]
  have hd : min (pD ax ay).depth (pD bx dy).depth ≤ 8 := by
    unfold pD
    simp [PyData.depthAll, PyData.depth]
  refine PySem.W.gt_data r1 r2 al (fun e => by cases e) (by omega) ⟨.bl _, H, I, rfl, ?_⟩
  rw [show PySem.W.dataLt (pD bx dy) (pD ax ay) = ltP bx dy ax ay from PySem.W.dataLt_ii ..]
  exact q
abbrev Pn := Addr × Int × Int
def pnD (b : Pn) : PyData := pD b.2.1 b.2.2
def pnV (b : Pn) : V := .ref b.1
theorem vals_of_each : ∀ {bs : List Pn} {us : List Value}, PySem.W.EachIs (fun v b => v = Value.ref b.1) us bs → Vals (bs.map pnV) us
  | _, _, .nil => .nil
  | _, _, .cons e t => by
    subst e
    exact .cons (show RelV (.ref _) (.ref _) from rfl) (vals_of_each t)
/-- what it is -/
theorem sortP_perm (bs : List Pn) : (bs.mergeSort fun p q => decide (p.2.1 < q.2.1 ∨ (p.2.1 = q.2.1 ∧ p.2.2 ≤ q.2.2))).Perm bs := List.mergeSort_perm _ _
theorem sortP_le (bs : List Pn) : (bs.mergeSort fun p q => decide (p.2.1 < q.2.1 ∨ (p.2.1 = q.2.1 ∧ p.2.2 ≤ q.2.2))).Pairwise fun p q => ltP q.2.1 q.2.2 p.2.1 p.2.2 = false := by
  have h := List.pairwise_mergeSort (le := fun p q : Pn => decide (p.2.1 < q.2.1 ∨ (p.2.1 = q.2.1 ∧ p.2.2 ≤ q.2.2)))
    (fun a b c h1 h2 => by have := of_decide_eq_true h1; have := of_decide_eq_true h2; exact decide_eq_true (by omega))
    (fun a b => by simp only [Bool.or_eq_true, decide_eq_true_eq]; omega) bs
  refine h.imp fun {a b} h => decide_eq_false ?_
  have := of_decide_eq_true h
  omega
end My
namespace My
/-! ## how two segments meet: points as pairs -/
abbrev Pt := Int × Int
def tn (a b c : Pt) : Int := turnI a.1 a.2 b.1 b.2 c.1 c.2
def lt (a b : Pt) : Bool := ltP a.1 a.2 b.1 b.2
def on (p a b : Pt) : Bool := onI a.1 a.2 b.1 b.2 p.1 p.2
def box (p a b : Pt) : Bool := boxI a.1 a.2 b.1 b.2 p.1 p.2
theorem lt_iff {a b : Pt} : lt a b = true ↔ (a.1 < b.1 ∨ (a.1 = b.1 ∧ a.2 < b.2)) := by unfold lt ltP; rw [decide_eq_true_eq]
theorem lt_no {a b : Pt} : lt a b = false ↔ ¬ (a.1 < b.1 ∨ (a.1 = b.1 ∧ a.2 < b.2)) := by unfold lt ltP; rw [decide_eq_false_iff_not]
theorem pt_eq {a b : Pt} (h1 : a.1 = b.1) (h2 : a.2 = b.2) : a = b := Prod.ext h1 h2
theorem lt_trans {a b c : Pt} (h : lt a b = true) (g : lt b c = true) : lt a c = true := by rw [lt_iff] at *; omega
theorem lt_irr (a : Pt) : lt a a = false := by rw [lt_no]; omega
theorem lt_tri {a b : Pt} (h : lt a b = false) (g : lt b a = false) : a = b := by
  rw [lt_no] at h g
  exact pt_eq (by omega) (by omega)
theorem le_trans {a b c : Pt} (h : lt b a = false) (g : lt c b = false) : lt c a = false := by rw [lt_no] at *; omega
theorem lt_le {a b : Pt} (h : lt a b = true) : lt b a = false := by rw [lt_iff] at h; rw [lt_no]; omega
theorem on_box {p a b : Pt} (h : lt a b = true) : on p a b = box p a b := onI_box h
theorem on_iff {p a b : Pt} : on p a b = true ↔ tn a b p = 0 ∧ lt p a = false ∧ lt b p = false := by
  unfold on onI tn lt
  simp only [Bool.and_eq_true, decide_eq_true_eq, Bool.not_eq_true']
theorem tn_a (a b : Pt) : tn a b a = 0 := by unfold tn turnI; grind
theorem tn_b (a b : Pt) : tn a b b = 0 := by unfold tn turnI; grind
theorem on_a {a b : Pt} (h : lt a b = true) : on a a b = true := on_iff.mpr ⟨tn_a a b, lt_irr a, lt_le h⟩
theorem on_b {a b : Pt} (h : lt a b = true) : on b a b = true := on_iff.mpr ⟨tn_b a b, lt_le h, lt_irr b⟩
/-- the four turns -/
theorem tn_four (a b c d : Pt) : tn c d a - tn c d b = tn a b d - tn a b c := by unfold tn turnI; grind
/-- where the lines meet, told from both -/
theorem tn_x (a b c d : Pt) : tn c d a * b.1 - tn c d b * a.1 = tn a b d * c.1 - tn a b c * d.1 := by unfold tn turnI; grind
theorem tn_y (a b c d : Pt) : tn c d a * b.2 - tn c d b * a.2 = tn a b d * c.2 - tn a b c * d.2 := by unfold tn turnI; grind
/-- a turn of a point, by its shift along -/
theorem tn_sub (a b p q : Pt) : tn a b p - tn a b q = (b.1 - a.1) * (p.2 - q.2) - (b.2 - a.2) * (p.1 - q.1) := by unfold tn turnI; grind
theorem tn_shift {a b c d : Pt} (hab : lt a b = true) (h1 : tn c d a = 0) (h2 : tn c d b = 0) : (b.1 - a.1) * (d.2 - c.2) = (b.2 - a.2) * (d.1 - c.1) := by
  have := tn_sub c d a b
  rw [h1, h2] at this
  grind
/-- two vectors along a third one that is not 0 -/
theorem par {x y u v w z : Int} (hn : x ≠ 0 ∨ y ≠ 0) (h1 : x * v = y * u) (h2 : x * z = y * w) : u * z = v * w := by
  rcases hn with hn | hn
  · have : x * (u * z) = x * (v * w) := by
      have e1 : x * (u * z) = u * (y * w) := by rw [← h2]; grind
      have e2 : x * (v * w) = w * (y * u) := by rw [← h1]; grind
      rw [e1, e2]; grind
    exact Int.eq_of_mul_eq_mul_left hn this
  · have : y * (u * z) = y * (v * w) := by
      have e1 : y * (u * z) = z * (x * v) := by rw [h1]; grind
      have e2 : y * (v * w) = v * (x * z) := by rw [h2]; grind
      rw [e1, e2]; grind
    exact Int.eq_of_mul_eq_mul_left hn this
theorem lt_vec {a b : Pt} (h : lt a b = true) : b.1 - a.1 ≠ 0 ∨ b.2 - a.2 ≠ 0 := by rw [lt_iff] at h; omega
theorem ne_vec {a b : Pt} (h : a ≠ b) : b.1 - a.1 ≠ 0 ∨ b.2 - a.2 ≠ 0 := by
  by_cases h1 : b.1 - a.1 = 0
  · by_cases h2 : b.2 - a.2 = 0
    · exact absurd (pt_eq (by omega) (by omega)) h
    · exact .inr h2
  · exact .inl h1
/-- the ends of one segment on the line of the other: then the other's on its line -/
theorem line_sym {a b c d : Pt} (hab : lt a b = true) (hcd : lt c d = true) (h1 : tn c d a = 0) (h2 : tn c d b = 0) : tn a b c = 0 ∧ tn a b d = 0 := by
  have s := tn_shift hab h1 h2
  have w := lt_vec hcd
  have e1 : (d.1 - c.1) * (a.2 - c.2) = (d.2 - c.2) * (a.1 - c.1) := by
    have := tn_sub c d a c
    rw [h1, tn_a] at this
    omega
  have e2 : (d.1 - c.1) * (b.2 - a.2) = (d.2 - c.2) * (b.1 - a.1) := by grind
  have p := par w e1 e2
  have c0 : tn a b c = 0 := by
    have := tn_sub a b c a
    rw [tn_a] at this
    grind
  have f := tn_four a b c d
  rw [h1, h2] at f
  exact ⟨c0, by omega⟩
/-- two common points of two lines: one line -/
theorem two_points {a b c d p q : Pt} (hab : lt a b = true) (hcd : lt c d = true) (hp : tn a b p = 0) (hq : tn a b q = 0) (gp : tn c d p = 0) (gq : tn c d q = 0) (n : p ≠ q) : tn c d a = 0 ∧ tn c d b = 0 := by
  have v := lt_vec hab
  have k := ne_vec n
  have e1 : (b.1 - a.1) * (q.2 - p.2) = (b.2 - a.2) * (q.1 - p.1) := by
    have := tn_sub a b q p
    rw [hp, hq] at this; omega
  have e2 : (d.1 - c.1) * (q.2 - p.2) = (d.2 - c.2) * (q.1 - p.1) := by
    have := tn_sub c d q p
    rw [gp, gq] at this; omega
  -- both along q - p
  have e3 : (b.1 - a.1) * (d.2 - c.2) = (b.2 - a.2) * (d.1 - c.1) := by
    have f1 : (q.1 - p.1) * (b.2 - a.2) = (q.2 - p.2) * (b.1 - a.1) := by grind
    have f2 : (q.1 - p.1) * (d.2 - c.2) = (q.2 - p.2) * (d.1 - c.1) := by grind
    exact par k f1 f2
  have e4 : (b.1 - a.1) * (p.2 - a.2) = (b.2 - a.2) * (p.1 - a.1) := by
    have := tn_sub a b p a
    rw [hp, tn_a] at this; omega
  have e5 := par v e4 e3
  have z : tn c d a = 0 := by
    have := tn_sub c d a p
    rw [gp] at this
    grind
  have s := tn_sub c d a b
  have : tn c d b = 0 := by rw [z] at s; grind
  exact ⟨z, this⟩
/-! ### the program's answer -/
inductive Mt where
  | none | touch (p : Pt) | over (p q : Pt) | cross (x y : Int × Int)
def mx (a b : Int) : Int := if b > a then b else a
def mn (a b : Int) : Int := if b < a then b else a
def apartB (a b c d : Pt) : Bool := (decide (b.1 < c.1) || decide (d.1 < a.1)) || (decide (mx a.2 b.2 < mn c.2 d.2) || decide (mx c.2 d.2 < mn a.2 b.2))
def low (a c : Pt) : Pt := if lt a c = true then c else a
def high (b d : Pt) : Pt := if lt d b = true then d else b
def lineM (a b c d : Pt) : Mt := if lt (high b d) (low a c) = true then .none else if low a c = high b d then .touch (low a c) else .over (low a c) (high b d)
def endM (a b c d : Pt) : Option Pt := if on a c d = true then some a else if on b c d = true then some b else if on c a b = true then some c else if on d a b = true then some d else none
def cutN (u v be af : Int) : Int := u * (be - af) + be * (v - u)
def cross (a b : Pt) (be af : Int) : Mt := .cross (lowN (cutN a.1 b.1 be af) (be - af), lowD (cutN a.1 b.1 be af) (be - af)) (lowN (cutN a.2 b.2 be af) (be - af), lowD (cutN a.2 b.2 be af) (be - af))
def meetM (a b c d : Pt) : Mt :=
  if apartB a b c d = true then .none
  else if tn c d a = 0 ∧ tn c d b = 0 then lineM a b c d
  else match endM a b c d with
    | some p => .touch p
    | none => if tn c d a * tn c d b < 0 ∧ tn a b c * tn a b d < 0 then cross a b (tn c d a) (tn c d b) else .none
/-! ### the law's answer -/
/-- the ends that lie on the other segment -/
def ends (a b c d : Pt) : List Pt := (if on a c d = true then [a] else []) ++ (if on b c d = true then [b] else []) ++ (if on c a b = true then [c] else []) ++ (if on d a b = true then [d] else [])
theorem mem_ends {a b c d p : Pt} : p ∈ ends a b c d ↔ (p = a ∧ on a c d = true) ∨ (p = b ∧ on b c d = true) ∨ (p = c ∧ on c a b = true) ∨ (p = d ∧ on d a b = true) := by
  unfold ends
  simp only [List.mem_append]
  constructor
  · rintro (((h | h) | h) | h)
    all_goals (split at h <;> simp at h)
    · exact .inl ⟨h, by assumption⟩
    · exact .inr (.inl ⟨h, by assumption⟩)
    · exact .inr (.inr (.inl ⟨h, by assumption⟩))
    · exact .inr (.inr (.inr ⟨h, by assumption⟩))
  · rintro (⟨rfl, h⟩ | ⟨rfl, h⟩ | ⟨rfl, h⟩ | ⟨rfl, h⟩)
    · exact .inl (.inl (.inl (by rw [if_pos h]; simp)))
    · exact .inl (.inl (.inr (by rw [if_pos h]; simp)))
    · exact .inl (.inr (by rw [if_pos h]; simp))
    · exact .inr (by rw [if_pos h]; simp)
/-- each of them lies on both -/
theorem ends_on {a b c d p : Pt} (hab : lt a b = true) (hcd : lt c d = true) (h : p ∈ ends a b c d) : on p a b = true ∧ on p c d = true := by
  rcases mem_ends.mp h with ⟨rfl, h⟩ | ⟨rfl, h⟩ | ⟨rfl, h⟩ | ⟨rfl, h⟩
  · exact ⟨on_a hab, h⟩
  · exact ⟨on_b hab, h⟩
  · exact ⟨h, on_a hcd⟩
  · exact ⟨h, on_b hcd⟩
/-- apart: nothing is on both -/
theorem on_range {p a b : Pt} (hab : lt a b = true) (h : on p a b = true) : a.1 ≤ p.1 ∧ p.1 ≤ b.1 ∧ mn a.2 b.2 ≤ p.2 ∧ p.2 ≤ mx a.2 b.2 := by
  rw [on_box hab] at h
  unfold box boxI at h
  simp only [Bool.and_eq_true, decide_eq_true_eq] at h
  obtain ⟨_, ⟨h1, h2⟩, h3, h4⟩ := h
  rw [lt_iff] at hab
  unfold mn mx
  refine ⟨?_, ?_, h3, h4⟩
  · split at h1 <;> omega
  · split at h2 <;> omega
theorem apart_none {a b c d p : Pt} (hab : lt a b = true) (hcd : lt c d = true) (h1 : on p a b = true) (h2 : on p c d = true) : apartB a b c d = false := by
  have r1 := on_range hab h1
  have r2 := on_range hcd h2
  unfold apartB
  simp only [Bool.or_eq_false_iff, decide_eq_false_iff_not]
  omega
/-- they cross within: no boxes apart -/
theorem weigh {W x y u v lo hi : Int} (hx : 0 < x) (hy : 0 < y) (hu : lo ≤ u ∧ u ≤ hi) (hv : lo ≤ v ∧ v ≤ hi) (hW : W = x * u + y * v) : (x + y) * lo ≤ W ∧ W ≤ (x + y) * hi := by
  have a1 := Int.mul_le_mul_of_nonneg_left hu.1 (Int.le_of_lt hx)
  have a2 := Int.mul_le_mul_of_nonneg_left hu.2 (Int.le_of_lt hx)
  have a3 := Int.mul_le_mul_of_nonneg_left hv.1 (Int.le_of_lt hy)
  have a4 := Int.mul_le_mul_of_nonneg_left hv.2 (Int.le_of_lt hy)
  rw [Int.add_mul, Int.add_mul]
  omega
theorem ranges_meet {x y z w a b c d W : Int} (hx : 0 < x) (hy : 0 < y) (hz : 0 < z) (hw : 0 < w) (hs : x + y = z + w) (h1 : W = x * a + y * b) (h2 : W = z * c + w * d) : mn a b ≤ mx c d ∧ mn c d ≤ mx a b := by
  have m1 := weigh (lo := mn a b) (hi := mx a b) hx hy (by unfold mn mx; split <;> split <;> omega) (by unfold mn mx; split <;> split <;> omega) h1
  have m2 := weigh (lo := mn c d) (hi := mx c d) hz hw (by unfold mn mx; split <;> split <;> omega) (by unfold mn mx; split <;> split <;> omega) h2
  rw [← hs] at m2
  have p : 0 < x + y := by omega
  exact ⟨Int.le_of_mul_le_mul_left (Int.le_trans m1.1 m2.2) p, Int.le_of_mul_le_mul_left (Int.le_trans m2.1 m1.2) p⟩
theorem neg_signs {x y : Int} (h : x * y < 0) : (0 < x ∧ y < 0) ∨ (x < 0 ∧ 0 < y) := by
  rcases Int.lt_trichotomy x 0 with a | a | a <;> rcases Int.lt_trichotomy y 0 with b | b | b
  · have := Int.mul_pos_of_neg_of_neg a b; omega
  · rw [b, Int.mul_zero] at h; omega
  · exact .inr ⟨a, b⟩
  · rw [a, Int.zero_mul] at h; omega
  · rw [a, Int.zero_mul] at h; omega
  · rw [a, Int.zero_mul] at h; omega
  · exact .inl ⟨a, b⟩
  · rw [b, Int.mul_zero] at h; omega
  · have := Int.mul_pos a b; omega
theorem cross_near {a b c d : Pt} (hab : lt a b = true) (hcd : lt c d = true) (h1 : tn c d a * tn c d b < 0) (h2 : tn a b c * tn a b d < 0) : apartB a b c d = false := by
  have f := tn_four a b c d
  have ex := tn_x a b c d
  have ey := tn_y a b c d
  have key : (mn a.1 b.1 ≤ mx c.1 d.1 ∧ mn c.1 d.1 ≤ mx a.1 b.1) ∧ (mn a.2 b.2 ≤ mx c.2 d.2 ∧ mn c.2 d.2 ≤ mx a.2 b.2) := by
    rcases neg_signs h1 with ⟨p1, p2⟩ | ⟨p1, p2⟩
    · have q : 0 < tn a b d ∧ tn a b c < 0 := by rcases neg_signs h2 with ⟨q1, q2⟩ | ⟨q1, q2⟩ <;> omega
      refine ⟨ranges_meet (x := -tn c d b) (y := tn c d a) (z := tn a b d) (w := -tn a b c) (by omega) p1 q.1 (by omega) (by omega) rfl (by grind), ranges_meet (x := -tn c d b) (y := tn c d a) (z := tn a b d) (w := -tn a b c) (by omega) p1 q.1 (by omega) (by omega) rfl (by grind)⟩
    · have q : 0 < tn a b c ∧ tn a b d < 0 := by rcases neg_signs h2 with ⟨q1, q2⟩ | ⟨q1, q2⟩ <;> omega
      refine ⟨ranges_meet (x := tn c d b) (y := -tn c d a) (z := -tn a b d) (w := tn a b c) p2 (by omega) (by omega) q.1 (by omega) rfl (by grind), ranges_meet (x := tn c d b) (y := -tn c d a) (z := -tn a b d) (w := tn a b c) p2 (by omega) (by omega) q.1 (by omega) rfl (by grind)⟩
  rw [lt_iff] at hab hcd
  unfold apartB
  simp only [Bool.or_eq_false_iff, decide_eq_false_iff_not]
  obtain ⟨⟨k1, k2⟩, k3, k4⟩ := key
  refine ⟨⟨?_, ?_⟩, ?_, ?_⟩
  · unfold mn mx at k2; split at k2 <;> split at k2 <;> omega
  · unfold mn mx at k1; split at k1 <;> split at k1 <;> omega
  · omega
  · omega
end My
namespace My
/-! ### the two answers agree -/
theorem low_case (a c : Pt) : (low a c = a ∧ lt a c = false) ∨ (low a c = c ∧ lt a c = true) := by
  unfold low
  by_cases h : lt a c = true
  · rw [if_pos h]; exact .inr ⟨rfl, h⟩
  · rw [if_neg h]; exact .inl ⟨rfl, by cases e : lt a c <;> simp_all⟩
theorem high_case (b d : Pt) : (high b d = b ∧ lt d b = false) ∨ (high b d = d ∧ lt d b = true) := by
  unfold high
  by_cases h : lt d b = true
  · rw [if_pos h]; exact .inr ⟨rfl, h⟩
  · rw [if_neg h]; exact .inl ⟨rfl, by cases e : lt d b <;> simp_all⟩
/-- on one line: a point of it is on both exactly if it lies between the greater first end and the lesser last end -/
theorem line_on {a b c d p : Pt} (h1 : tn a b p = 0) (h2 : tn c d p = 0) : (on p a b = true ∧ on p c d = true) ↔ lt p (low a c) = false ∧ lt (high b d) p = false := by
  rw [on_iff, on_iff]
  constructor
  · rintro ⟨⟨_, x1, x2⟩, _, x3, x4⟩
    refine ⟨?_, ?_⟩
    · rcases low_case a c with ⟨e, _⟩ | ⟨e, _⟩ <;> rw [e] <;> assumption
    · rcases high_case b d with ⟨e, _⟩ | ⟨e, _⟩ <;> rw [e] <;> assumption
  · rintro ⟨x1, x2⟩
    have y1 : lt p a = false ∧ lt p c = false := by
      rcases low_case a c with ⟨e, g⟩ | ⟨e, g⟩ <;> rw [e] at x1
      · exact ⟨x1, le_trans g x1⟩
      · exact ⟨le_trans (lt_le g) x1, x1⟩
    have y2 : lt b p = false ∧ lt d p = false := by
      rcases high_case b d with ⟨e, g⟩ | ⟨e, g⟩ <;> rw [e] at x2
      · exact ⟨x2, le_trans x2 g⟩
      · exact ⟨le_trans x2 (lt_le g), x2⟩
    exact ⟨⟨h1, y1.1, y2.1⟩, h2, y1.2, y2.2⟩
/-- what the law wants of the answer m -/
structure Right (a b c d : Pt) (m : Mt) : Prop where
  none_ : ends a b c d = [] → (0 ≤ tn a b c * tn a b d ∨ 0 ≤ tn c d a * tn c d b) → m = .none
  touch_ : ∀ p, p ∈ ends a b c d → (∀ q ∈ ends a b c d, q = p) → m = .touch p
  over_ : ∀ p q, p ∈ ends a b c d → q ∈ ends a b c d → p ≠ q → (∀ r ∈ ends a b c d, lt r p = false ∧ lt q r = false) → m = .over p q
  cross_ : ends a b c d = [] → tn a b c * tn a b d < 0 → tn c d a * tn c d b < 0 → m = cross a b (tn c d a) (tn c d b)
theorem endM_none {a b c d : Pt} : endM a b c d = none ↔ ends a b c d = [] := by
  unfold endM ends
  by_cases h1 : on a c d = true
  · simp [h1]
  · by_cases h2 : on b c d = true
    · simp [h1, h2]
    · by_cases h3 : on c a b = true
      · simp [h1, h2, h3]
      · by_cases h4 : on d a b = true
        · simp [h1, h2, h3, h4]
        · simp [h1, h2, h3, h4]
theorem endM_some {a b c d p : Pt} (h : endM a b c d = some p) : p ∈ ends a b c d := by
  rw [mem_ends]
  unfold endM at h
  split at h
  · cases h; exact .inl ⟨rfl, by assumption⟩
  · split at h
    · cases h; exact .inr (.inl ⟨rfl, by assumption⟩)
    · split at h
      · cases h; exact .inr (.inr (.inl ⟨rfl, by assumption⟩))
      · split at h
        · cases h; exact .inr (.inr (.inr ⟨rfl, by assumption⟩))
        · cases h
theorem meet_right {a b c d : Pt} (hab : lt a b = true) (hcd : lt c d = true) : Right a b c d (meetM a b c d) := by
  by_cases hap : apartB a b c d = true
  · have e : meetM a b c d = .none := by unfold meetM; rw [if_pos hap]
    have no : ∀ p, p ∉ ends a b c d := fun p hp => by
      obtain ⟨x, y⟩ := ends_on hab hcd hp
      rw [apart_none hab hcd x y] at hap
      cases hap
    exact ⟨fun _ _ => e, fun p hp => absurd hp (no p), fun p q hp => absurd hp (no p), fun _ h1 h2 => by rw [cross_near hab hcd h2 h1] at hap; cases hap⟩
  · by_cases hl : tn c d a = 0 ∧ tn c d b = 0
    · have e : meetM a b c d = lineM a b c d := by unfold meetM; rw [if_neg hap, if_pos hl]
      rw [e]
      obtain ⟨z1, z2⟩ := line_sym hab hcd hl.1 hl.2
      have on_all : ∀ p, p = a ∨ p = b ∨ p = c ∨ p = d → tn a b p = 0 ∧ tn c d p = 0 := by
        rintro p (rfl | rfl | rfl | rfl)
        · exact ⟨tn_a _ _, hl.1⟩
        · exact ⟨tn_b _ _, hl.2⟩
        · exact ⟨z1, tn_a _ _⟩
        · exact ⟨z2, tn_b _ _⟩
      have lowm : low a c = a ∨ low a c = b ∨ low a c = c ∨ low a c = d := by rcases low_case a c with ⟨e, _⟩ | ⟨e, _⟩ <;> simp [e]
      have highm : high b d = a ∨ high b d = b ∨ high b d = c ∨ high b d = d := by rcases high_case b d with ⟨e, _⟩ | ⟨e, _⟩ <;> simp [e]
      -- an end that is on both is one of the ends
      have isend : ∀ p, (p = a ∨ p = b ∨ p = c ∨ p = d) → on p a b = true → on p c d = true → p ∈ ends a b c d := by
        rintro p (rfl | rfl | rfl | rfl) x y <;> rw [mem_ends]
        · exact .inl ⟨rfl, y⟩
        · exact .inr (.inl ⟨rfl, y⟩)
        · exact .inr (.inr (.inl ⟨rfl, x⟩))
        · exact .inr (.inr (.inr ⟨rfl, x⟩))
      have range : ∀ p ∈ ends a b c d, lt p (low a c) = false ∧ lt (high b d) p = false := fun p hp => by
        have m : p = a ∨ p = b ∨ p = c ∨ p = d := by rcases mem_ends.mp hp with ⟨h, _⟩ | ⟨h, _⟩ | ⟨h, _⟩ | ⟨h, _⟩ <;> simp [h]
        obtain ⟨t1, t2⟩ := on_all p m
        exact (line_on t1 t2).mp (ends_on hab hcd hp)
      unfold lineM
      by_cases g : lt (high b d) (low a c) = true
      · rw [if_pos g]
        have no : ∀ p, p ∉ ends a b c d := fun p hp => by
          obtain ⟨x, y⟩ := range p hp
          rw [le_trans x y] at g
          cases g
        exact ⟨fun _ _ => rfl, fun p hp => absurd hp (no p), fun p q hp => absurd hp (no p), fun _ h1 _ => by rw [z1, Int.zero_mul] at h1; omega⟩
      · rw [if_neg g]
        have g : lt (high b d) (low a c) = false := by cases e : lt (high b d) (low a c) <;> simp_all
        have lowin : low a c ∈ ends a b c d := by
          obtain ⟨t1, t2⟩ := on_all _ lowm
          obtain ⟨x, y⟩ := (line_on t1 t2).mpr ⟨lt_irr _, g⟩
          exact isend _ lowm x y
        have highin : high b d ∈ ends a b c d := by
          obtain ⟨t1, t2⟩ := on_all _ highm
          obtain ⟨x, y⟩ := (line_on t1 t2).mpr ⟨g, lt_irr _⟩
          exact isend _ highm x y
        refine ⟨(fun h => by rw [h] at lowin; cases lowin), fun p hp all => ?_, fun p q hp hq n ord => ?_, (fun h => by rw [h] at lowin; cases lowin)⟩
        · rw [all _ lowin, all _ highin, if_pos rfl]
        · have e1 : p = low a c := lt_tri (range p hp).1 (ord _ lowin).1
          have e2 : q = high b d := lt_tri (ord _ highin).2 (range q hq).2
          rw [← e1, ← e2, if_neg n]
    · -- at most one common point
      have one : ∀ p ∈ ends a b c d, ∀ q ∈ ends a b c d, q = p := fun p hp q hq => by
        by_cases n : p = q
        · exact n.symm
        · obtain ⟨x1, x2⟩ := ends_on hab hcd hp
          obtain ⟨y1, y2⟩ := ends_on hab hcd hq
          exact absurd (two_points hab hcd (on_iff.mp x1).1 (on_iff.mp y1).1 (on_iff.mp x2).1 (on_iff.mp y2).1 n) hl
      have e : meetM a b c d = match endM a b c d with
          | some p => .touch p
          | none => if tn c d a * tn c d b < 0 ∧ tn a b c * tn a b d < 0 then cross a b (tn c d a) (tn c d b) else .none := by
        unfold meetM; rw [if_neg hap, if_neg hl]
      rw [e]
      cases em : endM a b c d with
      | some p =>
        have hp := endM_some em
        refine ⟨(fun h => by rw [h] at hp; cases hp), (fun q hq _ => by rw [one q hq p hp]), fun p' q' hp' hq' n => absurd (one p' hp' q' hq').symm n, (fun h => by rw [h] at hp; cases hp)⟩
      | none =>
        have h0 := endM_none.mp em
        refine ⟨fun _ h => ?_, (fun p hp => by rw [h0] at hp; cases hp), (fun p q hp => by rw [h0] at hp; cases hp), fun _ h1 h2 => ?_⟩
        · show (if _ then _ else _) = _
          rw [if_neg (by omega)]
        · show (if _ then _ else _) = _
          rw [if_pos ⟨h2, h1⟩]
/-! ### the other way round -/
theorem ends_sym {a b c d p : Pt} : p ∈ ends c d a b ↔ p ∈ ends a b c d := by
  rw [mem_ends, mem_ends]
  constructor <;> (rintro (h | h | h | h) <;> simp [h])
theorem low_unique {n1 d1 n2 d2 N1 D1 N2 D2 : Int} (L1 : LowOk n1 d1 N1 D1) (L2 : LowOk n2 d2 N2 D2) (z1 : d1 ≠ 0) (z2 : d2 ≠ 0) (h : n1 * d2 = n2 * d1) : N1 = N2 ∧ D1 = D2 := by
  obtain ⟨⟨g1, y1, e1, e2⟩, q1, o1⟩ := L1
  obtain ⟨⟨g2, y2, e3, e4⟩, q2, o2⟩ := L2
  have k : N1 * D2 = N2 * D1 := by
    have : g1 * g2 * (N1 * D2) = g1 * g2 * (N2 * D1) := by
      have a1 : g1 * g2 * (N1 * D2) = n1 * d2 := by rw [e1, e4]; grind
      have a2 : g1 * g2 * (N2 * D1) = n2 * d1 := by rw [e3, e2]; grind
      rw [a1, a2, h]
    exact Int.eq_of_mul_eq_mul_left (Int.mul_ne_zero y1 y2) this
  have kn : N1.natAbs * D2.natAbs = N2.natAbs * D1.natAbs := by
    have := congrArg Int.natAbs k
    rwa [Int.natAbs_mul, Int.natAbs_mul] at this
  have d12 : D1.natAbs ∣ D2.natAbs := by
    have : D1.natAbs ∣ N1.natAbs * D2.natAbs := ⟨N2.natAbs, by rw [kn, Nat.mul_comm]⟩
    exact Nat.Coprime.dvd_of_dvd_mul_left (Nat.Coprime.symm o1) this
  have d21 : D2.natAbs ∣ D1.natAbs := by
    have : D2.natAbs ∣ N2.natAbs * D1.natAbs := ⟨N1.natAbs, by rw [← kn, Nat.mul_comm]⟩
    exact Nat.Coprime.dvd_of_dvd_mul_left (Nat.Coprime.symm o2) this
  have e := Nat.dvd_antisymm d12 d21
  have eD : D1 = D2 := by omega
  refine ⟨?_, eD⟩
  rw [eD] at k
  exact Int.eq_of_mul_eq_mul_right (by omega) k
theorem cut_sym {a b c d : Pt} (hW : tn c d a - tn c d b ≠ 0) : cross c d (tn a b c) (tn a b d) = cross a b (tn c d a) (tn c d b) := by
  have f := tn_four a b c d
  have ex := tn_x a b c d
  have ey := tn_y a b c d
  have hW2 : tn a b c - tn a b d ≠ 0 := by omega
  have u1 := low_unique (low_ok (n := cutN c.1 d.1 (tn a b c) (tn a b d)) hW2) (low_ok (n := cutN a.1 b.1 (tn c d a) (tn c d b)) hW) hW2 hW (by
    have x1 : cutN c.1 d.1 (tn a b c) (tn a b d) = tn a b c * d.1 - tn a b d * c.1 := by unfold cutN; grind
    have x2 : cutN a.1 b.1 (tn c d a) (tn c d b) = tn c d a * b.1 - tn c d b * a.1 := by unfold cutN; grind
    have x3 : tn a b c - tn a b d = -(tn c d a - tn c d b) := by omega
    rw [x1, x2, x3, ex]; grind)
  have u2 := low_unique (low_ok (n := cutN c.2 d.2 (tn a b c) (tn a b d)) hW2) (low_ok (n := cutN a.2 b.2 (tn c d a) (tn c d b)) hW) hW2 hW (by
    have x1 : cutN c.2 d.2 (tn a b c) (tn a b d) = tn a b c * d.2 - tn a b d * c.2 := by unfold cutN; grind
    have x2 : cutN a.2 b.2 (tn c d a) (tn c d b) = tn c d a * b.2 - tn c d b * a.2 := by unfold cutN; grind
    have x3 : tn a b c - tn a b d = -(tn c d a - tn c d b) := by omega
    rw [x1, x2, x3, ey]; grind)
  unfold cross
  rw [u1.1, u1.2, u2.1, u2.2]
/-- the least and the greatest of some points -/
theorem least_of : ∀ (l : List Pt), l ≠ [] → ∃ p ∈ l, ∀ r ∈ l, lt r p = false
  | [], h => absurd rfl h
  | [p], _ => ⟨p, by simp, fun r hr => by rw [List.mem_singleton.mp hr]; exact lt_irr p⟩
  | p :: q :: l, _ => by
    obtain ⟨m, hm, all⟩ := least_of (q :: l) (by simp)
    by_cases h : lt p m = true
    · refine ⟨p, by simp, fun r hr => ?_⟩
      rcases List.mem_cons.mp hr with rfl | hr
      · exact lt_irr r
      · exact le_trans (lt_le h) (all r hr)
    · refine ⟨m, List.mem_cons_of_mem _ hm, fun r hr => ?_⟩
      rcases List.mem_cons.mp hr with rfl | hr
      · cases e : lt r m <;> simp_all
      · exact all r hr
theorem greatest_of : ∀ (l : List Pt), l ≠ [] → ∃ p ∈ l, ∀ r ∈ l, lt p r = false
  | [], h => absurd rfl h
  | [p], _ => ⟨p, by simp, fun r hr => by rw [List.mem_singleton.mp hr]; exact lt_irr p⟩
  | p :: q :: l, _ => by
    obtain ⟨m, hm, all⟩ := greatest_of (q :: l) (by simp)
    by_cases h : lt m p = true
    · refine ⟨p, by simp, fun r hr => ?_⟩
      rcases List.mem_cons.mp hr with rfl | hr
      · exact lt_irr r
      · exact le_trans (all r hr) (lt_le h)
    · refine ⟨m, List.mem_cons_of_mem _ hm, fun r hr => ?_⟩
      rcases List.mem_cons.mp hr with rfl | hr
      · cases e : lt m r <;> simp_all
      · exact all r hr
theorem meet_sym {a b c d : Pt} (hab : lt a b = true) (hcd : lt c d = true) : meetM c d a b = meetM a b c d := by
  have R := meet_right hab hcd
  have S := meet_right hcd hab
  by_cases h0 : ends a b c d = []
  · have h1 : ends c d a b = [] := List.eq_nil_iff_forall_not_mem.mpr fun p hp => by
      have := ends_sym.mp hp
      rw [h0] at this
      cases this
    by_cases k : 0 ≤ tn a b c * tn a b d ∨ 0 ≤ tn c d a * tn c d b
    · rw [R.none_ h0 k, S.none_ h1 k.symm]
    · have k1 : tn a b c * tn a b d < 0 := by omega
      have k2 : tn c d a * tn c d b < 0 := by omega
      rw [R.cross_ h0 k1 k2, S.cross_ h1 k2 k1]
      have n := neg_signs k2
      exact cut_sym (by omega)
  · obtain ⟨p, hp, ap⟩ := least_of _ h0
    obtain ⟨q, hq, aq⟩ := greatest_of _ h0
    by_cases e : p = q
    · subst e
      have one : ∀ r ∈ ends a b c d, r = p := fun r hr => lt_tri (ap r hr) (aq r hr)
      rw [R.touch_ p hp one, S.touch_ p (ends_sym.mpr hp) fun r hr => one r (ends_sym.mp hr)]
    · rw [R.over_ p q hp hq e fun r hr => ⟨ap r hr, aq r hr⟩, S.over_ p q (ends_sym.mpr hp) (ends_sym.mpr hq) e fun r hr => ⟨ap r (ends_sym.mp hr), aq r (ends_sym.mp hr)⟩]
/-! ### the crossing lies on both lines -/
end My
namespace My
open PySem L2
/-! ## meetings at addresses -/
abbrev PtAt (K : PySem.W.Frag) (H : Hp) (p : Addr) (P : Int × Int) : Prop := SqT K H p [.int P.1, .int P.2]
def MtAt (K : PySem.W.Frag) (H : Hp) (v : V) : Mt → Prop
  | .none => ∃ p, v = .ref p ∧ SqT K H p [.str "none"]
  | .touch P => ∃ p q, v = .ref p ∧ SqT K H p [.str "touch", .ref q] ∧ PtAt K H q P
  | .over P R => ∃ p q r, v = .ref p ∧ SqT K H p [.str "overlap", .ref q, .ref r] ∧ PtAt K H q P ∧ PtAt K H r R
  | .cross x y => ∃ p q r, v = .ref p ∧ SqT K H p [.str "cross", .ref q, .ref r] ∧ PtAt K H q x ∧ PtAt K H r y
theorem MtAt.same {K : PySem.W.Frag} {H H' : Hp} (e : Same H H') {v : V} : ∀ {m : Mt}, MtAt K H v m → MtAt K H' v m
  | .none, ⟨p, h, a⟩ => ⟨p, h, tSame e a⟩
  | .touch _, ⟨p, q, h, a, b⟩ => ⟨p, q, h, tSame e a, tSame e b⟩
  | .over _ _, ⟨p, q, r, h, a, b, c⟩ => ⟨p, q, r, h, tSame e a, tSame e b, tSame e c⟩
  | .cross _ _, ⟨p, q, r, h, a, b, c⟩ => ⟨p, q, r, h, tSame e a, tSame e b, tSame e c⟩
def CeAt (K : PySem.W.Frag) (H : Hp) (v : V) : Option Pt → Prop
  | some P => ∃ q, v = .ref q ∧ PtAt K H q P
  | none => v = .non
theorem turn_le {ax ay bx dy cx cy : Int} (oa : On ax ay) (ob : On bx dy) (oc : On cx cy) : (turnI ax ay bx dy cx cy).natAbs ≤ 2 ^ 23 :=
  sub_le (x := 22) (mul_le (x := 11) (y := 11) (ob.d oa).1 (oc.d oa).2) (mul_le (x := 11) (y := 11) (ob.d oa).2 (oc.d oa).1)
end My
namespace My
open PySem L2
theorem int0 {x : Int} (h : V.int x = V.int 0) : x = 0 := by injection h
end My
namespace My
open PySem L2
/-! ## lines, and the nearest of their edges -/
theorem walk_zipT {K : PySem.W.Frag} {a b : Addr} {xs ys : List V} {n : Nat} (hn : n = min xs.length ys.length) : Walk (RZ.ItzT K a b) n (fun H => SqT K H a xs ∧ SqT K H b ys) (YPair (fun i => xs[i]?) (fun i => ys[i]?)) :=
  ⟨fun i H hi g => by
    have l1 : i < xs.length := by omega
    have l2 : i < ys.length := by omega
    exact ⟨xs, ys, _, _, g.1, g.2, get_at l1, get_at l2⟩, fun H g => ⟨xs, ys, g.1, g.2, by omega⟩, fun i H v H' _ g y => by
    obtain ⟨T, x, z, e1, e2, e3, e4, e5⟩ := y
    exact ⟨T, x, z, e1, e2, e3, e4 _ g.1, e5 _ g.2⟩⟩
theorem op_neK {X : Cx} {K : PySem.W.Frag} (hK : X.K = K) (hu : X.A.units + 64 < cLine) : OpR X (compareOp .NotEq) (rPP K fun ax ay bx dy => .bl (!decide (ax = bx ∧ ay = dy))) := by
  subst hK
  exact op_neP hu
section
variable {K : PySem.W.Frag} {H H' : Hp} {a p s D : Addr} {x v : V} {b c : Bool} {xs : List V} {o : HO} {zs : List Zp}
/-- x is a value of which is_point is b -/
def PV (K : PySem.W.Frag) (H : Hp) (x : V) (b : Bool) : Prop := ∃ n, Ty K H x n ∧ (n = "tuple" → ∃ a xs, x = .ref a ∧ SqT K H a xs ∧ (∀ v ∈ xs, ∃ m, Ty K H v m) ∧ b = pointB xs) ∧ (n ≠ "tuple" → b = false)
theorem PV.same (e : Same H H') (h : PV K H x b) : PV K H' x b := by
  obtain ⟨n, t, h1, h2⟩ := h
  refine ⟨n, t.same e, fun q => ?_, h2⟩
  obtain ⟨a, xs, e1, e2, e3, e4⟩ := h1 q
  exact ⟨a, xs, e1, tSame e e2, fun v hv => (e3 v hv).imp fun _ h => h.same e, e4⟩
theorem PV.tup (h : SqT K H a xs) (hm : ∀ v ∈ xs, ∃ m, Ty K H v m) (e : pointB xs = b) : PV K H (.ref a) b := ⟨_, .tup h, fun _ => ⟨_, _, rfl, h, hm, e.symm⟩, fun z => absurd rfl z⟩
theorem PV.no {n : String} (h : Ty K H x n) (hn : n ≠ "tuple") : PV K H x false := ⟨n, h, fun q => absurd q hn, fun _ => rfl⟩
theorem PV.pt {i j : Int} (h : SqT K H a [.int i, .int j]) (g : On i j) : PV K H (.ref a) true := .tup h two_ints g.b
/-- a tuple of values of which is_point is told -/
def AV (K : PySem.W.Frag) (lo hi : Int) (H : Hp) (x : V) (b : Bool) : Prop := ∃ n, Ty K H x n ∧ (n = "tuple" → ∃ (a : Addr) (xs : List V) (bs : List Bool), x = .ref a ∧ SqT K H a xs ∧ xs.length ≤ 1000 ∧ bs.length = xs.length ∧
  (∀ (i : Nat) v c, xs[i]? = some v → bs[i]? = some c → PV K H v c) ∧ b = ((decide (lo ≤ (xs.length : Int)) && decide ((xs.length : Int) ≤ hi)) && bs.all id)) ∧ (n ≠ "tuple" → b = false)
theorem AV.same {lo hi : Int} (e : Same H H') (h : AV K lo hi H x b) : AV K lo hi H' x b := by
  obtain ⟨n, t, h1, h2⟩ := h
  refine ⟨n, t.same e, fun q => ?_, h2⟩
  obtain ⟨a, xs, bs, e1, e2, e3, e4, e5, e6⟩ := h1 q
  exact ⟨a, xs, bs, e1, tSame e e2, e3, e4, fun i v c f g => (e5 i v c f g).same e, e6⟩
/-- points of the map in a tuple -/
structure LnAt (K : PySem.W.Frag) (H : Hp) (a : Addr) (zs : List Zp) : Prop where
  t : SqT K H a (refs zs)
  p : Pts K H zs
  on : ∀ z ∈ zs, On z.2.1 z.2.2
theorem LnAt.same (e : Same H H') (h : LnAt K H a zs) : LnAt K H' a zs := ⟨tSame e h.t, h.p.same e, h.on⟩
theorem LnAt.but {q : Addr} (e : But s H H') (S : Strm H s q) (h : LnAt K H a zs) : LnAt K H' a zs := ⟨tButS e S h.t, h.p.but e S, h.on⟩
theorem LnAt.av {lo hi : Int} (h : LnAt K H a zs) (hz : zs.length ≤ 1000) : AV K lo hi H (.ref a) (decide (lo ≤ (zs.length : Int)) && decide ((zs.length : Int) ≤ hi)) := by
  refine ⟨_, .tup h.t, fun _ => ⟨_, _, List.replicate zs.length true, rfl, h.t, by simpa using hz, by simp, fun i v c e1 e2 => ?_, by simp⟩, fun z => absurd rfl z⟩
  rw [List.getElem?_map] at e1
  obtain ⟨z, e3, rfl⟩ := Option.map_eq_some_iff.mp e1
  have hm := List.mem_of_getElem? e3
  rw [List.getElem?_replicate] at e2
  split at e2
  · injection e2 with e2
    subst e2
    exact .pt (h.p z hm) (h.on z hm)
  · cases e2
/-- neighbours are different -/
def Ne (zs : List Zp) : Prop := ∀ (i : Nat) u w, zs[i]? = some u → zs[i + 1]? = some w → ¬ (u.2.1 = w.2.1 ∧ u.2.2 = w.2.2)
def LnOk (zs : List Zp) : Prop := 2 ≤ zs.length ∧ zs.length ≤ 40 ∧ Ne zs
/-- x is a value of which is_line is b -/
def LnV (K : PySem.W.Frag) (H : Hp) (x : V) (b : Bool) : Prop := (∃ a zs, x = .ref a ∧ LnAt K H a zs ∧ zs.length ≤ 1000 ∧ (b = true ↔ LnOk zs)) ∨ (AV K 2 40 H x false ∧ b = false)
theorem LnV.same (e : Same H H') (h : LnV K H x b) : LnV K H' x b := by
  rcases h with ⟨a, zs, e1, h, h2, h3⟩ | ⟨h, h2⟩
  · exact .inl ⟨a, zs, e1, h.same e, h2, h3⟩
  · exact .inr ⟨h.same e, h2⟩
theorem LnV.no {n : String} (h : Ty K H x n) (hn : n ≠ "tuple") : LnV K H x false := .inr ⟨⟨n, h, fun q => absurd q hn, fun _ => rfl⟩, rfl⟩
theorem LnV.not (h : LnAt K H a zs) (hz : zs.length ≤ 1000) (n : ¬ LnOk zs) : LnV K H (.ref a) false := .inl ⟨a, zs, rfl, h, hz, ⟨fun z => (Bool.false_ne_true z).elim, fun z => (n z).elim⟩⟩
theorem LnV.good (h : LnAt K H a zs) (hz : zs.length ≤ 1000) (n : LnOk zs) : LnV K H (.ref a) true := .inl ⟨a, zs, rfl, h, hz, ⟨fun _ => n, fun _ => rfl⟩⟩
/-- a value that is no point among points -/
theorem LnV.bad {us ws : List Zp} (h : SqT K H a (refs us ++ v :: refs ws)) (pu : Pts K H us) (ou : ∀ z ∈ us, On z.2.1 z.2.2) (pw : Pts K H ws) (ow : ∀ z ∈ ws, On z.2.1 z.2.2) (hv : PV K H v false) (h2 : us.length + ws.length ≤ 900) : LnV K H (.ref a) false := by
  refine .inr ⟨⟨_, .tup h, fun _ => ⟨_, _, List.replicate us.length true ++ false :: List.replicate ws.length true, rfl, h, by simp; omega, by simp, fun i v' c e1 e2 => ?_, by simp⟩, fun z => absurd rfl z⟩, rfl⟩
  have good : ∀ {zs : List Zp} {j : Nat}, Pts K H zs → (∀ z ∈ zs, On z.2.1 z.2.2) → (refs zs)[j]? = some v' → (List.replicate zs.length true)[j]? = some c → PV K H v' c := by
    intro zs j hp ho f1 f2
    rw [List.getElem?_map] at f1
    obtain ⟨z, f3, rfl⟩ := Option.map_eq_some_iff.mp f1
    have hm := List.mem_of_getElem? f3
    rw [List.getElem?_replicate] at f2
    split at f2
    · injection f2 with f2
      subst f2
      exact .pt (hp z hm) (ho z hm)
    · cases f2
  by_cases q : i < us.length
  · rw [List.getElem?_append_left (by simpa using q)] at e1
    rw [List.getElem?_append_left (by simpa using q)] at e2
    exact good pu ou e1 e2
  · rw [List.getElem?_append_right (by simp; omega)] at e1
    rw [List.getElem?_append_right (by simp; omega)] at e2
    rw [List.length_map] at e1
    rw [List.length_replicate] at e2
    cases hi : i - us.length with
    | zero =>
      rw [hi] at e1 e2
      injection e1 with e1
      injection e2 with e2
      subst e1 e2
      exact hv
    | succ k =>
      rw [hi, List.getElem?_cons_succ] at e1 e2
      exact good pw ow e1 e2
end
section
variable {K : PySem.W.Frag} {H H' : Hp} {a t : Addr} {zs ws : List Zp}
theorem LnAt.sub (h : LnAt K H t zs) (hw : ∀ z ∈ ws, z ∈ zs) (ht : SqT K H a (refs ws)) : LnAt K H a ws := ⟨ht, fun z hz => h.p z (hw z hz), fun z hz => h.on z (hw z hz)⟩
theorem LnAt.get (h : LnAt K H t zs) {z : Zp} (hz : z ∈ zs) : SqT K H z.1 [.int z.2.1, .int z.2.2] := h.p z hz
end
theorem ltP_self (x y : Int) : ltP x y x y = false := decide_eq_false (by omega)
/-! ## the lowest terms of equal fractions -/
theorem low_eq {n1 d1 n2 d2 : Int} (p1 : 0 < d1) (p2 : 0 < d2) (h : n1 * d2 = n2 * d1) : lowN n1 d1 = lowN n2 d2 ∧ lowD n1 d1 = lowD n2 d2 := by
  have L1 := low_ok (n := n1) (d := d1) (by omega)
  have L2 := low_ok (n := n2) (d := d2) (by omega)
  have a1 := low_le L1 L2 p1 p2 (Int.le_of_eq h)
  have a2 := low_le L2 L1 p2 p1 (Int.le_of_eq h.symm)
  generalize lowN n1 d1 = N1 at *
  generalize lowD n1 d1 = D1 at *
  generalize lowN n2 d2 = N2 at *
  generalize lowD n2 d2 = D2 at *
  obtain ⟨_, q1, c1⟩ := L1
  obtain ⟨_, q2, c2⟩ := L2
  have e : N1 * D2 = N2 * D1 := Int.le_antisymm a1 a2
  have en : N1.natAbs * D2.natAbs = N2.natAbs * D1.natAbs := by rw [← Int.natAbs_mul, ← Int.natAbs_mul, e]
  have d12 : D1.natAbs ∣ D2.natAbs := Nat.Coprime.dvd_of_dvd_mul_left (show Nat.Coprime D1.natAbs N1.natAbs by rw [Nat.Coprime, Nat.gcd_comm]; exact c1) ⟨N2.natAbs, by rw [en, Nat.mul_comm]⟩
  have d21 : D2.natAbs ∣ D1.natAbs := Nat.Coprime.dvd_of_dvd_mul_left (show Nat.Coprime D2.natAbs N2.natAbs by rw [Nat.Coprime, Nat.gcd_comm]; exact c2) ⟨N1.natAbs, by rw [← en, Nat.mul_comm]⟩
  have ed := Nat.dvd_antisymm d12 d21
  have eD : D1 = D2 := by omega
  subst eD
  exact ⟨Int.eq_of_mul_eq_mul_right (by omega) e, rfl⟩
theorem gap_scale (ux uy vx vy g n d : Int) : gapN ux uy vx vy (g * n) (g * d) = g * g * gapN ux uy vx vy n d := by unfold gapN; grind
/-- the gap by the foot in lowest terms -/
theorem gap_red {ux uy vx vy c s : Int} (hs : 0 < s) : lowN (gapN ux uy vx vy (lowN c s) (lowD c s)) (lowD c s * lowD c s) = lowN (gapN ux uy vx vy c s) (s * s) ∧ lowD (gapN ux uy vx vy (lowN c s) (lowD c s)) (lowD c s * lowD c s) = lowD (gapN ux uy vx vy c s) (s * s) := by
  obtain ⟨⟨g, hg, e1, e2⟩, q1, _⟩ := low_ok (n := c) (d := s) (by omega)
  refine low_eq (Int.mul_pos q1 q1) (Int.mul_pos hs hs) ?_
  generalize lowN c s = N at *
  generalize lowD c s = E at *
  subst e1 e2
  rw [gap_scale]
  generalize gapN ux uy vx vy N E = G
  grind
theorem clamp_flip {al s : Int} (hs : 0 < s) : clamp (s - al) s = s - clamp al s := by
  unfold clamp
  split <;> split <;> (try split) <;> (try split) <;> omega
def gR (px py ax ay bx dy : Int) : Int := gapN (px - ax) (py - ay) (bx - ax) (dy - ay) (clamp (dot (px - ax) (py - ay) (bx - ax) (dy - ay)) (sq (bx - ax) (dy - ay))) (sq (bx - ax) (dy - ay))
def gN (px py ax ay bx dy : Int) : Int := lowN (gR px py ax ay bx dy) (sq (bx - ax) (dy - ay) * sq (bx - ax) (dy - ay))
def gD (px py ax ay bx dy : Int) : Int := lowD (gR px py ax ay bx dy) (sq (bx - ax) (dy - ay) * sq (bx - ax) (dy - ay))
theorem sq_flip (ax ay bx dy : Int) : sq (ax - bx) (ay - dy) = sq (bx - ax) (dy - ay) := by unfold sq; grind
theorem gR_flip {px py ax ay bx dy : Int} (h : 0 < sq (bx - ax) (dy - ay)) : gR px py bx dy ax ay = gR px py ax ay bx dy := by
  unfold gR
  rw [sq_flip]
  have e : dot (px - bx) (py - dy) (ax - bx) (ay - dy) = sq (bx - ax) (dy - ay) - dot (px - ax) (py - ay) (bx - ax) (dy - ay) := by unfold dot sq; grind
  rw [e, clamp_flip h]
  generalize clamp (dot (px - ax) (py - ay) (bx - ax) (dy - ay)) (sq (bx - ax) (dy - ay)) = n
  generalize sq (bx - ax) (dy - ay) = t
  unfold gapN
  grind
theorem gN_flip {px py ax ay bx dy : Int} (h : 0 < sq (bx - ax) (dy - ay)) : gN px py bx dy ax ay = gN px py ax ay bx dy ∧ gD px py bx dy ax ay = gD px py ax ay bx dy := by
  unfold gN gD
  rw [gR_flip h, sq_flip]
  exact ⟨rfl, rfl⟩
/-- the least at which a fraction is least -/
def bI (f : Nat → Int × Int) : Nat → Nat
  | 0 => 0
  | i + 1 => if (f i).1 * (f (bI f i)).2 < (f (bI f i)).1 * (f i).2 then i else bI f i
theorem bI_le (f : Nat → Int × Int) (n : Nat) : bI f (n + 1) ≤ n := by
  induction n with
  | zero => unfold bI bI; split <;> omega
  | succ n ih => rw [bI]; split <;> omega
/-- the gap of the i-th edge -/
def gF (px py : Int) (zs : List Zp) (i : Nat) : Int × Int := match zs[i]?, zs[i + 1]? with
  | some u, some w => (gN px py u.2.1 u.2.2 w.2.1 w.2.2, gD px py u.2.1 u.2.2 w.2.1 w.2.2)
  | _, _ => (0, 1)
theorem gF_at {px py : Int} {zs : List Zp} {i : Nat} {u w : Zp} (h1 : zs[i]? = some u) (h2 : zs[i + 1]? = some w) : gF px py zs i = (gN px py u.2.1 u.2.2 w.2.1 w.2.2, gD px py u.2.1 u.2.2 w.2.1 w.2.2) := by
  unfold gF
  rw [h1, h2]
/-- a gap at an address -/
structure Gp (K : PySem.W.Frag) (H : Hp) (a : Addr) (f : Int × Int) : Prop where
  at_ : SqT K H a [.int f.1, .int f.2]
  pos : 0 < f.2
  one : Nat.gcd f.1.natAbs f.2.natAbs = 1
  bn : f.1.natAbs ≤ 2 ^ 71
  bd : f.2.natAbs ≤ 2 ^ 46
section
variable {K : PySem.W.Frag} {H H' : Hp} {a p s b D : Addr} {f : Int × Int} {o : HO}
theorem Gp.same (e : Same H H') (h : Gp K H a f) : Gp K H' a f := { h with at_ := tSame e h.at_ }
theorem Gp.but (e : But s H H') (S : Strm H s b) (h : Gp K H a f) : Gp K H' a f := { h with at_ := tButS e S h.at_ }
theorem Gp.put (q : ∃ ys, H D = some (.lst ys)) (h : Gp K H a f) : Gp K (upd H D o) a f := { h with at_ := tAt q h.at_ }
theorem Gp.fv (h : Gp K H a f) : FV K H (.ref a) true := FV.ok h.at_ h.pos h.one
/-- the bounds of a gap -/
theorem gap_ok {px py ax ay bx dy : Int} (op : On px py) (oa : On ax ay) (ob : On bx dy) (ne : ¬ (ax = bx ∧ ay = dy)) :
    0 < sq (bx - ax) (dy - ay) ∧ 0 < gD px py ax ay bx dy ∧ Nat.gcd (gN px py ax ay bx dy).natAbs (gD px py ax ay bx dy).natAbs = 1 ∧ (gN px py ax ay bx dy).natAbs ≤ 2 ^ 71 ∧ (gD px py ax ay bx dy).natAbs ≤ 2 ^ 46 := by
  have hs : 0 < sq (bx - ax) (dy - ay) := sq_pos (by omega)
  have vd := ob.d oa
  have ud := op.d oa
  have sl := sq_le vd
  have gl := gap_le ud vd (clamp_le (dot_le ud vd) sl) sl
  have L := low_ok (n := gR px py ax ay bx dy) (d := sq (bx - ax) (dy - ay) * sq (bx - ax) (dy - ay)) (mul_ne hs hs)
  exact ⟨hs, L.pos, L.one, Nat.le_trans L.leN gl.2.2, Nat.le_trans L.leD (mul_le sl sl)⟩
theorem Gp.edge {q : Addr} {px py : Int} {zs : List Zp} {i : Nat} {u w : Zp} (h1 : zs[i]? = some u) (h2 : zs[i + 1]? = some w) (op : On px py) (ou : On u.2.1 u.2.2) (ow : On w.2.1 w.2.2) (ne : ¬ (u.2.1 = w.2.1 ∧ u.2.2 = w.2.2))
    (hq : SqT K H q [.int (gN px py u.2.1 u.2.2 w.2.1 w.2.2), .int (gD px py u.2.1 u.2.2 w.2.1 w.2.2)]) : Gp K H q (gF px py zs i) := by
  obtain ⟨_, k1, k2, k3, k4⟩ := gap_ok op ou ow ne
  rw [gF_at h1 h2]
  exact ⟨hq, k1, k2, k3, k4⟩
theorem red_gap {px py ax ay bx dy : Int} (h : 0 < sq (bx - ax) (dy - ay)) :
    lowN (gapN (px - ax) (py - ay) (bx - ax) (dy - ay) (lowN (clamp (dot (px - ax) (py - ay) (bx - ax) (dy - ay)) (sq (bx - ax) (dy - ay))) (sq (bx - ax) (dy - ay))) (lowD (clamp (dot (px - ax) (py - ay) (bx - ax) (dy - ay)) (sq (bx - ax) (dy - ay))) (sq (bx - ax) (dy - ay)))) (lowD (clamp (dot (px - ax) (py - ay) (bx - ax) (dy - ay)) (sq (bx - ax) (dy - ay))) (sq (bx - ax) (dy - ay)) * lowD (clamp (dot (px - ax) (py - ay) (bx - ax) (dy - ay)) (sq (bx - ax) (dy - ay))) (sq (bx - ax) (dy - ay))) = gN px py ax ay bx dy ∧
    lowD (gapN (px - ax) (py - ay) (bx - ax) (dy - ay) (lowN (clamp (dot (px - ax) (py - ay) (bx - ax) (dy - ay)) (sq (bx - ax) (dy - ay))) (sq (bx - ax) (dy - ay))) (lowD (clamp (dot (px - ax) (py - ay) (bx - ax) (dy - ay)) (sq (bx - ax) (dy - ay))) (sq (bx - ax) (dy - ay)))) (lowD (clamp (dot (px - ax) (py - ay) (bx - ax) (dy - ay)) (sq (bx - ax) (dy - ay))) (sq (bx - ax) (dy - ay)) * lowD (clamp (dot (px - ax) (py - ay) (bx - ax) (dy - ay)) (sq (bx - ax) (dy - ay))) (sq (bx - ax) (dy - ay))) = gD px py ax ay bx dy := gap_red h
/-- the edge between two points, in either order -/
def EdgeAt (K : PySem.W.Frag) (H : Hp) (g : Addr) (u w : Zp) : Prop := SegAt K H g u.1 w.1 u.2.1 u.2.2 w.2.1 w.2.2 ∨ SegAt K H g w.1 u.1 w.2.1 w.2.2 u.2.1 u.2.2
theorem EdgeAt.same {g : Addr} {u w : Zp} (e : Same H H') (h : EdgeAt K H g u w) : EdgeAt K H' g u w := h.imp (fun h => h.same e) fun h => h.same e
theorem SegAt.put {K : PySem.W.Frag} {H : Hp} {D g a c : Addr} {ax ay bx dy : Int} {o : HO} (q : ∃ ys, H D = some (.lst ys)) (h : SegAt K H g a c ax ay bx dy) : SegAt K (upd H D o) g a c ax ay bx dy := { h with g := tAt q h.g, a := tAt q h.a, c := tAt q h.c }
theorem EdgeAt.put {g : Addr} {u w : Zp} (q : ∃ ys, H D = some (.lst ys)) (h : EdgeAt K H g u w) : EdgeAt K (upd H D o) g u w := h.imp (fun h => h.put q) fun h => h.put q
/-- of two different points one comes first -/
theorem ltP_or {ax ay bx dy : Int} (h : ¬ (ax = bx ∧ ay = dy)) (g : ltP ax ay bx dy = false) : ltP bx dy ax ay = true := by
  have := of_decide_eq_false g
  exact decide_eq_true (by omega)
/-- x is a value of which is_segment is b -/
def SgV (K : PySem.W.Frag) (H : Hp) (x : V) (b : Bool) : Prop := ∃ n, Ty K H x n ∧ (n = "tuple" → ∃ (g : Addr) (xs : List V), x = .ref g ∧ SqT K H g xs ∧ ((xs.length ≠ 2 ∧ b = false) ∨
  ∃ u v c d, xs = [u, v] ∧ PV K H u c ∧ PV K H v d ∧ ((c && d) = false ∧ b = false ∨ c = true ∧ d = true ∧ ∃ (i j : Addr) (ax ay bx dy : Int), u = .ref i ∧ v = .ref j ∧ SqT K H i [.int ax, .int ay] ∧ SqT K H j [.int bx, .int dy] ∧ On ax ay ∧ On bx dy ∧ b = ltP ax ay bx dy))) ∧ (n ≠ "tuple" → b = false)
theorem SgV.no {x : V} {n : String} (h : Ty K H x n) (hn : n ≠ "tuple") : SgV K H x false := ⟨n, h, fun q => absurd q hn, fun _ => rfl⟩
theorem SgV.len {g : Addr} {xs : List V} (h : SqT K H g xs) (hn : xs.length ≠ 2) : SgV K H (.ref g) false := ⟨_, .tup h, fun _ => ⟨g, xs, rfl, h, .inl ⟨hn, rfl⟩⟩, fun z => absurd rfl z⟩
theorem SgV.two {g i j : Addr} {ax ay bx dy : Int} {b : Bool} (h : SqT K H g [.ref i, .ref j]) (hi : SqT K H i [.int ax, .int ay]) (hj : SqT K H j [.int bx, .int dy]) (oa : On ax ay) (oc : On bx dy) (e : ltP ax ay bx dy = b) : SgV K H (.ref g) b :=
  ⟨_, .tup h, fun _ => ⟨g, _, rfl, h, .inr ⟨_, _, true, true, rfl, .pt hi oa, .pt hj oc, .inr ⟨rfl, rfl, i, j, ax, ay, bx, dy, rfl, rfl, hi, hj, oa, oc, e.symm⟩⟩⟩, fun z => absurd rfl z⟩
theorem SgV.bad {g : Addr} {u v : V} {c d : Bool} (h : SqT K H g [u, v]) (hu : PV K H u c) (hv : PV K H v d) (e : (c && d) = false) : SgV K H (.ref g) false :=
  ⟨_, .tup h, fun _ => ⟨g, _, rfl, h, .inr ⟨_, _, c, d, rfl, hu, hv, .inl ⟨e, rfl⟩⟩⟩, fun z => absurd rfl z⟩
end
end My
namespace HT
open PySem PySem.Calls PyProof.Rows PySem.W L2
theorem back_items (xs : Array Value) : ((List.range xs.size).filterMap fun (k : Nat) => xs[(((xs.size : Int) - 1) + (k : Int) * (-1)).toNat]?).toArray = xs.toList.reverse.toArray := by
  congr 1
  have e : ∀ k ∈ List.range xs.size, xs[(((xs.size : Int) - 1) + (k : Int) * (-1)).toNat]? = (xs.toList.reverse)[k]? := by
    intro k hk
    have hk := List.mem_range.mp hk
    rw [List.getElem?_reverse (by simpa using hk), Array.getElem?_toList, Array.length_toList]
    congr 1
    omega
  have e2 : (List.range xs.size).filterMap (fun (k : Nat) => xs[(((xs.size : Int) - 1) + (k : Int) * (-1)).toNat]?) = (List.range xs.size).filterMap (fun k => (xs.toList.reverse)[k]?) := by
    have fm : ∀ (l : List Nat) (f g : Nat → Option Value), (∀ k ∈ l, f k = g k) → l.filterMap f = l.filterMap g := by
      intro l f g h
      induction l with
      | nil => rfl
      | cons a l ih => rw [List.filterMap_cons, List.filterMap_cons, h a (by simp), ih (fun k hk => h k (by simp [hk]))]
    exact fm _ _ _ e
  rw [e2]
  have : ∀ (l : List Value), (List.range l.length).filterMap (fun k => l[k]?) = l := by
    intro l
    induction l with
    | nil => rfl
    | cons a l ih =>
      rw [List.length_cons, List.range_succ_eq_map, List.filterMap_cons]
      show a :: _ = _
      rw [List.filterMap_map]
      congr 1
  have h := this xs.toList.reverse
  rw [List.length_reverse, Array.length_toList] at h
  exact h
section
variable {prog : Program} {w : World} {A : Around} {E : Value → Shared → Prop} {s : Shared}
theorem back_tuple {tup cutter : Addr} {xs : Array Value} {st : Value} {Q : Value → Shared → Prop} (isTup : IsTup s.heap tup xs) (isCut : s.heap.IsSliceOf cutter .none .none st) (minus : IsPart st (some (-1))) (some_ : 1 ≤ xs.size) (few : xs.size ≤ sizeLine)
    (h : Q (.ref s.heap.objs.size) { s with heap := s.heap.push { cls := .type "tuple", data := .seq xs.toList.reverse.toArray } }) : wpAny (model prog w) A (getItem (.ref tup) (.ref cutter)) Q E s := by
  obtain ⟨oc, hoc, hcc, hdc⟩ := id isCut
  have isS : s.TypeIs (.ref cutter) "slice" := ⟨oc, hoc, hcc⟩
  unfold getItem
  try with_reducible refine wpAny_holding ?_
  first | refine wpAny_bind (wpAny_pure ?_) | skip
  refine wpAny_bind (wpAny_sequenceKey isTup.typeIs (by decide) (?_))
  refine wpAny_bind (wpAny_callSpecial?_slot (name := Str.ofString "__getitem__") isTup.typeIs PyProof.Rows.slot_tuple_getitem (wpAny_call_entry PyProof.Rows.slot_tuple_getitem isTup.typeIs entry_tuple_getitem ?_ (args_tuple_getitem _ _)))
  show wpAny _ _ (Builtin.Tuple.tupleItemsOf (.ref tup) >>= _) _ _ s
  refine wpAny_bind (tupleItemsOf_ isTup ?_)
  refine wpAny_bind (wpAny_typeOf isS (?_))
  rw [if_pos (by decide)]
  have parts : ∀ E' : Value → Shared → Prop, wpAny (model prog w) A.in1 (Builtin.Slice.sliceApplied (.ref cutter) (pure ((xs.size : Nat) : Int))) (fun r s' => r = (((xs.size : Int) - 1), (-1 : Int), xs.size) ∧ s' = s) E' s := by
    intro E'
    unfold Builtin.Slice.sliceApplied Builtin.Slice.sliceFields
    refine wpAny_bind (wpAny_bind (wpAny_field hoc hdc (x := Value.none) rfl (wpAny_bind (wpAny_field hoc hdc (x := Value.none) rfl (wpAny_bind (wpAny_field hoc hdc (x := st) rfl (wpAny_pure ?_)))))))
    refine wpAny_bind (slicePart_ minus ?_)
    show wpAny _ _ (if ((-1 : Int) == 0) = true then _ else _) _ _ s
    rw [if_neg (by decide)]
    refine wpAny_bind (slicePart_none (wpAny_bind (slicePart_none (wpAny_bind (wpAny_pure (wpAny_pure ⟨?_, rfl⟩))))))
    simp [Builtin.Slice.slicePlaces]
    omega
  refine wpAny_bind (wpAny_mono (parts _) (fun r s' z => ?_) fun _ _ e => e)
  obtain ⟨rfl, rfl⟩ := z
  show wpAny _ _ (if (((xs.size : Int) - 1) == 0 && (-1 : Int) == 1 && xs.size == xs.size) = true then _ else _) _ _ s'
  rw [if_neg (by rw [show ((-1 : Int) == 1) = false from rfl, Bool.and_false, Bool.false_and]; decide)]
  rw [back_items]
  have size : sizeOk (.seq xs.toList.reverse.toArray) := by
    show xs.toList.reverse.toArray.size ≤ sizeLine
    rw [List.size_toArray, List.length_reverse, Array.length_toList]
    exact few
  first
    | exact wpAny_bind (m := Builtin.Tuple.tupleExact _) (wpAny_newObj_type (wpAny_pure ⟨_, rfl, wpAny_pure h⟩) size)
    | exact wpAny_bind (m := Builtin.Tuple.tupleExact _) (wpAny_newObj_type (wpAny_bind (wpAny_pure (wpAny_pure ⟨_, rfl, wpAny_pure h⟩))) size)
    | exact wpAny_bind (wpAny_bind (m := Builtin.Tuple.tupleExact _) (wpAny_newObj_type (wpAny_pure (wpAny_pure ⟨_, rfl, wpAny_pure h⟩)) size))
    | exact wpAny_bind (wpAny_bind (m := Builtin.Tuple.tupleExact _) (wpAny_newObj_type (wpAny_pure ⟨_, rfl, wpAny_pure h⟩) size))
end
end HT
namespace My
open PySem L2
/-! ## twice the area that a row of points goes around -/
def cr (u w : Zp) : Int := u.2.1 * w.2.2 - u.2.2 * w.2.1
/-- along a row -/
def along : List Zp → Int
  | u :: w :: r => cr u w + along (w :: r)
  | _ => 0
/-- around: from the last to the first, too -/
def around (zs : List Zp) : Int := match zs.getLast? with
  | some l => along (l :: zs)
  | none => 0
theorem along_cons2 (u w : Zp) (r : List Zp) : along (u :: w :: r) = cr u w + along (w :: r) := rfl
theorem along_app : ∀ (as : List Zp) (u : Zp) (bs : List Zp), along (as ++ u :: bs) = along (as ++ [u]) + along (u :: bs)
  | [], u, bs => by
    show along (u :: bs) = 0 + along (u :: bs)
    omega
  | [a], u, bs => by
    show cr a u + along (u :: bs) = cr a u + 0 + along (u :: bs)
    omega
  | a :: b :: as, u, bs => by
    have := along_app (b :: as) u bs
    show cr a b + along ((b :: as) ++ u :: bs) = cr a b + along ((b :: as) ++ [u]) + along (u :: bs)
    omega
theorem around_snoc (as : List Zp) (l : Zp) : around (as ++ [l]) = along (l :: (as ++ [l])) := by
  unfold around
  rw [List.getLast?_append]
  rfl
/-- begun elsewhere -/
theorem around_turned (as bs : List Zp) : around (bs ++ as) = around (as ++ bs) := by
  rcases List.eq_nil_or_concat as with rfl | ⟨as', a, rfl⟩
  · rw [List.append_nil, List.nil_append]
  rcases List.eq_nil_or_concat bs with rfl | ⟨bs', b, rfl⟩
  · rw [List.append_nil, List.nil_append]
  rw [List.concat_eq_append, List.concat_eq_append]
  rw [← List.append_assoc, around_snoc, ← List.append_assoc (as' ++ [a]), around_snoc]
  have e1 : a :: (bs' ++ [b] ++ as' ++ [a]) = (a :: bs') ++ b :: (as' ++ [a]) := by simp
  have e2 : b :: (as' ++ [a] ++ bs' ++ [b]) = (b :: as') ++ a :: (bs' ++ [b]) := by simp
  have h1 := along_app (a :: bs') b (as' ++ [a])
  have h2 := along_app (b :: as') a (bs' ++ [b])
  rw [e1, e2, h1, h2]
  show along (a :: (bs' ++ [b])) + along (b :: (as' ++ [a])) = along (b :: (as' ++ [a])) + along (a :: (bs' ++ [b]))
  omega
theorem cr_flip (u w : Zp) : cr w u = 0 - cr u w := by unfold cr; grind
theorem along_back : ∀ (zs : List Zp), along zs.reverse = 0 - along zs
  | [] => rfl
  | [u] => rfl
  | u :: w :: r => by
    have ih := along_back (w :: r)
    rw [List.reverse_cons, List.reverse_cons, List.append_assoc]
    show along (r.reverse ++ w :: [u]) = _
    rw [along_app, ← List.reverse_cons, ih]
    show 0 - along (w :: r) + (cr w u + 0) = 0 - (cr u w + along (w :: r))
    rw [cr_flip u w]
    omega
/-- backwards -/
theorem around_back (zs : List Zp) : around zs.reverse = 0 - around zs := by
  cases zs with
  | nil => rfl
  | cons u r =>
    rw [List.reverse_cons, around_snoc, ← List.reverse_cons]
    rcases List.eq_nil_or_concat (u :: r) with e | ⟨as, l, e⟩
    · cases e
    · rw [List.concat_eq_append] at e
      rw [e, around_snoc]
      have e2 : u :: (as ++ [l]).reverse = u :: l :: as.reverse := by simp
      have e3 : l :: (as ++ [l]) = l :: u :: r := by rw [← e]
      rw [e3, along_cons2, ← e]
      rw [show u :: (u :: r).reverse = u :: (as ++ [l]).reverse by rw [e], e2, along_cons2, cr_flip l u]
      have : along (l :: as.reverse) = 0 - along (u :: r) := by rw [← along_back, e]; simp
      omega
theorem zip_along : ∀ (u : Zp) (r : List Zp) (x : Zp), (List.zipWith cr (u :: r) (r ++ [x])).sum = along (u :: (r ++ [x]))
  | u, [], x => by show cr u x + 0 = cr u x + 0; rfl
  | u, w :: r, x => by
    have ih := zip_along w r x
    show cr u w + (List.zipWith cr (w :: r) (r ++ [x])).sum = cr u w + along (w :: (r ++ [x]))
    rw [ih]
/-- the sum over the ways around -/
theorem area_sum {zs : List Zp} (h : 1 ≤ zs.length) : (List.zipWith cr zs (zs.drop 1 ++ zs.take 1)).sum = around zs := by
  cases zs with
  | nil => cases h
  | cons u r =>
    show (List.zipWith cr (u :: r) (r ++ [u])).sum = _
    rw [zip_along]
    rcases List.eq_nil_or_concat (u :: r) with e | ⟨as, l, e⟩
    · cases e
    · rw [List.concat_eq_append] at e
      have e1 : around (u :: r) = along (l :: (u :: r)) := by rw [e, around_snoc]
      have e2 : u :: (r ++ [u]) = as ++ l :: [u] := by
        rw [← List.cons_append, e, List.append_assoc]; rfl
      rw [e1, e2, along_app, ← e, along_cons2 l u r]
      show along (u :: r) + (cr l u + 0) = _
      omega
theorem cr_le {u w : Zp} (hu : On u.2.1 u.2.2) (hw : On w.2.1 w.2.2) : (cr u w).natAbs ≤ 2 ^ 21 :=
  sub_le (x := 20) (mul_le (x := 10) (y := 10) (by unfold On at hu; omega) (by unfold On at hw; omega)) (mul_le (x := 10) (y := 10) (by unfold On at hu; omega) (by unfold On at hw; omega))
end My
namespace My
open PySem L2
/-! ## lists of points that stand through draws -/
/-- a walk, whatever is done at each turn -/
theorem walk_any {J : It} {n : Nat} {G : Hp → Prop} {Y : Nat → Hp → V → Hp → Prop} {Body : (Hp → Prop) → V → Hp → Prop} {End : Hp → Prop} {Hs : Hp} (w : Walk J n G Y) (Pv : Nat → Hp → Prop) (first : Pv 0 Hs) (stands : ∀ i H, i ≤ n → Pv i H → G H)
    (turn : ∀ i x H H', i < n → Pv i H → Y i H x H' → Body (Pv (i + 1)) x H') (last : ∀ H, Pv n H → End H) :
    ∃ W : Nat → Nat → Hp → Prop, (∃ m, W 0 m Hs) ∧ ∀ i m H, W i m H → (J.stop i H ∧ End H) ∨ (J.go i H ∧ ∃ Nx : Hp → Prop, (∀ H', Nx H' → ∃ m', m' < m ∧ W (i + 1) m' H') ∧ ∀ x H', J.yld i H x H' → Body Nx x H') := by
  refine ⟨fun i left H => i + left = n ∧ Pv i H, ⟨n, Nat.zero_add n, first⟩, fun i left H here => ?_⟩
  obtain ⟨count, now⟩ := here
  cases left with
  | zero =>
    obtain rfl : i = n := count
    exact .inl ⟨w.stops H (stands _ H (Nat.le_refl _) now), last H now⟩
  | succ fewer =>
    have more : i < n := by omega
    exact .inr ⟨w.goes i H more (stands _ H (Nat.le_of_lt more) now), Pv (i + 1), fun H' then_ => ⟨fewer, Nat.lt_succ_self fewer, by omega, then_⟩, fun x H' given => turn i x H H' more now (w.yields i H x H' more (stands _ H (Nat.le_of_lt more) now) given)⟩
/-- a list of its own at p: points of the map -/
structure PL (K : PySem.W.Frag) (H : Hp) (s p : Addr) (zs : List Zp) : Prop where
  l : H p = some (.lst (refs zs))
  n : p ≠ s
  p : Pts K H zs
  on : ∀ z ∈ zs, On z.2.1 z.2.2
section
variable {K : PySem.W.Frag} {H H' : Hp} {s b p q : Addr} {zs ws : List Zp} {o : HO}
theorem PL.same (e : Same H H') (h : PL K H s p zs) : PL K H' s p zs := ⟨e.get h.l, h.n, h.p.same e, h.on⟩
theorem PL.but (e : But s H H') (S : Strm H s b) (h : PL K H s p zs) : PL K H' s p zs := ⟨e.get h.n h.l, h.n, h.p.but e S, h.on⟩
theorem PL.over (n : H q = none) (h : PL K H s p zs) : PL K (upd H q o) s p zs := h.same (same_new n)
theorem PL.seq (h : PL K H s p zs) : SqL K H p (refs zs) := SqL.of h.l
theorem PL.at_ {i : Nat} {z : Zp} (h : PL K H s p zs) (e : zs[i]? = some z) : SqT K H z.1 [.int z.2.1, .int z.2.2] := h.p.get e
theorem refs_len : (refs zs).length = zs.length := List.length_map _
theorem refs_app : refs (zs ++ ws) = refs zs ++ refs ws := List.map_append
theorem refs_take {n : Nat} : (refs zs).take n = refs (zs.take n) := (List.map_take).symm
theorem refs_drop {n : Nat} : (refs zs).drop n = refs (zs.drop n) := (List.map_drop).symm
end
end My
namespace My
open PySem L2
/-! ## the least of a row of points; the first place of a point in a tuple -/
abbrev ptsD (zs : List Zp) : List PyData := zs.map fun z => pD z.2.1 z.2.2
theorem dp_pts {K : PySem.W.Frag} {H : Hp} : ∀ {zs : List Zp}, Pts K H zs → DpAll K H (refs zs) (ptsD zs)
  | [], _ => .nil
  | z :: zs, h => .cons (dP (h z (by simp))) (dp_pts fun x hx => h x (by simp [hx]))
theorem pD_inj {ax ay bx dy : Int} (h : pD ax ay = pD bx dy) : ax = bx ∧ ay = dy := by
  unfold pD at h
  injection h with h
  injection h with h1 h2
  injection h1 with h1
  injection h2 with h2 _
  injection h2 with h2
  exact ⟨h1, h2⟩
theorem pD_lay (x y : Int) : (pD x y).canLay0 = true := by simp [pD, PyData.canLay0, PyData.canLayAll0]
theorem pD_depth (x y : Int) : (pD x y).depth ≤ 8 := by simp [pD, PyData.depth, PyData.depthAll]
theorem ptsD_lay : ∀ zs : List Zp, PyData.canLayAll0 (ptsD zs) = true
  | [] => by simp [PyData.canLayAll0]
  | z :: zs => by
    show (PyData.canLay0 (pD z.2.1 z.2.2) && PyData.canLayAll0 (ptsD zs)) = true
    rw [pD_lay, ptsD_lay zs]; rfl
theorem ptsD_depth : ∀ zs : List Zp, PyData.depthAll (ptsD zs) ≤ 8
  | [] => by simp [PyData.depthAll]
  | z :: zs => by
    have h1 := ptsD_depth zs
    have h2 := pD_depth z.2.1 z.2.2
    simp only [ptsD, List.map_cons, PyData.depthAll]
    exact Nat.max_le.mpr ⟨h2, h1⟩
theorem ptsD_alike (zs : List Zp) : PySem.W.AlikeAll (ptsD zs) := by
  refine ⟨fun x hx y hy => ?_, fun x hx => ?_⟩
  · obtain ⟨z, _, rfl⟩ := List.mem_map.mp hx
    obtain ⟨w, _, rfl⟩ := List.mem_map.mp hy
    unfold pD
    simp [PySem.W.alike, PySem.W.alikeAll]
  · obtain ⟨z, _, rfl⟩ := List.mem_map.mp hx
    unfold pD
    intro e
    cases e
theorem ltP_irr (x y : Int) : ltP x y x y = false := decide_eq_false (by omega)
theorem least_fold : ∀ (r : List Zp) (z : Zp), ∃ m ∈ z :: r, PySem.W.minD (pD z.2.1 z.2.2) (ptsD r) = pD m.2.1 m.2.2 ∧ ∀ w ∈ z :: r, ltP w.2.1 w.2.2 m.2.1 m.2.2 = false
  | [], z => ⟨z, by simp, rfl, fun w hw => by rw [List.mem_singleton] at hw; subst hw; exact ltP_irr _ _⟩
  | y :: r, z => by
    have e : PySem.W.minD (pD z.2.1 z.2.2) (ptsD (y :: r)) = PySem.W.minD (if PySem.W.dataLt (pD y.2.1 y.2.2) (pD z.2.1 z.2.2) = true then pD y.2.1 y.2.2 else pD z.2.1 z.2.2) (ptsD r) := rfl
    rw [show PySem.W.dataLt (pD y.2.1 y.2.2) (pD z.2.1 z.2.2) = ltP y.2.1 y.2.2 z.2.1 z.2.2 from PySem.W.dataLt_ii ..] at e
    by_cases q : ltP y.2.1 y.2.2 z.2.1 z.2.2 = true
    · rw [if_pos q] at e
      obtain ⟨m, hm, e1, h1⟩ := least_fold r y
      refine ⟨m, List.mem_cons_of_mem _ hm, e.trans e1, fun w hw => ?_⟩
      rcases List.mem_cons.mp hw with rfl | hw
      · have := h1 y (by simp)
        unfold ltP at this q ⊢
        rw [decide_eq_false_iff_not] at *
        rw [decide_eq_true_eq] at q
        omega
      · exact h1 w hw
    · rw [if_neg q] at e
      obtain ⟨m, hm, e1, h1⟩ := least_fold r z
      refine ⟨m, ?_, e.trans e1, fun w hw => ?_⟩
      · rcases List.mem_cons.mp hm with rfl | hm
        · simp
        · simp [hm]
      · rcases List.mem_cons.mp hw with rfl | hw
        · exact h1 _ (by simp)
        · rcases List.mem_cons.mp hw with rfl | hw
          · have := h1 z (by simp)
            rw [Bool.not_eq_true] at q
            unfold ltP at this q ⊢
            rw [decide_eq_false_iff_not] at *
            omega
          · exact h1 w (by simp [hw])
/-- min(t), t a tuple of points: one of its own -/
def rMinT (K : PySem.W.Frag) : List V → Hp → VK → Prop := fun vs H Q => ∃ (a : Addr) (zs : List Zp), vs = [V.ref a] ∧ (SqT K H a (refs zs) ∨ SqL K H a (refs zs)) ∧ Pts K H zs ∧ 1 ≤ zs.length ∧ ∀ z ∈ zs, (∀ w ∈ zs, ltP w.2.1 w.2.2 z.2.1 z.2.2 = false) → Q (.ref z.1) H
theorem cr_minT {X : Cx} (hc : X.calm = true) (hu : X.A.units + 64 < cLine) : CallR X (.builtin "min") (rMinT X.K) := by
  intro pins s σ H vs us Q I r h
  obtain ⟨a, zs, rfl, hs, hp, hn, q⟩ := h
  rw [Vals.ref1 r]
  have go : ∀ (its : List Value), Vals (refs zs) its → ∀ (as : List Addr), ReadsAll s.heap its (ptsD zs) as → ∀ (i : Nat) v h' tk bs, its.toArray[i]? = some v → Reads h' v (PySem.W.minD ((ptsD zs).headD .none) ((ptsD zs).drop 1)) bs → (∀ b o, s.heap.get? b = some o → h'.get? b = some o) → ∃ y H', Inv X pins σ H' { s with heap := h', toks := tk } ∧ RelV y v ∧ Q y H' := by
    intro its rv as ra i v h' tk bs hv hr hk
    have hv' : its[i]? = some v := by simpa using hv
    have li : i < its.length := (List.getElem?_eq_some_iff.mp hv').1
    have lz : i < zs.length := by have := rv.length; rw [List.length_map] at this; omega
    obtain ⟨z, hz⟩ : ∃ z, zs[i]? = some z := ⟨_, List.getElem?_eq_getElem lz⟩
    obtain ⟨w, hw, rw_⟩ := rv.get (i := i) (x := .ref z.1) (by rw [List.getElem?_map, hz]; rfl)
    rw [hv'] at hw
    cases hw
    have ev : v = Value.ref z.1 := rw_
    subst ev
    obtain ⟨cs, rz⟩ := Dp.reads I _ _ (.ref z.1) (dP (hp z (List.mem_of_getElem? hz))) rfl
    have rz := PySem.W.reads_keeps hk rz
    obtain ⟨z0, zr, rfl⟩ : ∃ z0 zr, zs = z0 :: zr := by
      cases zs with
      | nil => cases hn
      | cons z0 zr => exact ⟨z0, zr, rfl⟩
    obtain ⟨m, hm, e1, h1⟩ := least_fold zr z0
    have hr : Reads h' (.ref z.1) (PySem.W.minD (pD z0.2.1 z0.2.2) (ptsD zr)) bs := hr
    rw [e1] at hr
    have e2 := SeqAt.readOf_eq (pD_lay _ _) hr
    rw [SeqAt.readOf_eq (pD_lay _ _) rz] at e2
    obtain ⟨e3, e4⟩ := pD_inj e2
    exact ⟨.ref z.1, H, I.kept hk, rfl, q z (List.mem_of_getElem? hz) fun w hw => by rw [e3, e4]; exact h1 w hw⟩
  have hd : X.A.units + 1 + PyData.depthAll (ptsD zs) < cLine := by have := ptsD_depth zs; omega
  have hcons : ptsD zs = (ptsD zs).headD .none :: (ptsD zs).drop 1 := by
    cases zs with
    | nil => cases hn
    | cons z0 zr => rfl
  rcases hs with hs | hs
  · obtain ⟨its, rv, hl, hz⟩ := I.tuple hs
    obtain ⟨as, ra⟩ := Dp.readsAll I _ _ _ (dp_pts hp) rv
    refine PySem.W.min_tuple_data (I.ok.hd hc) hl (x := (ptsD zs).headD .none) (xs := (ptsD zs).drop 1) (as := as) (by rw [← hcons]; exact ra) (by rw [← hcons]; exact ptsD_alike zs) (by rw [← hcons]; exact hd) fun i v h' tk bs hv hr hk => go its rv as ra i v h' tk bs hv hr hk
  · obtain ⟨its, rv, hl, hz⟩ := I.list hs
    obtain ⟨as, ra⟩ := Dp.readsAll I _ _ _ (dp_pts hp) rv
    refine PySem.W.min_list_data (I.ok.hd hc) hl.isList (x := (ptsD zs).headD .none) (xs := (ptsD zs).drop 1) (as := as) (by rw [← hcons]; exact ra) (by rw [← hcons]; exact ptsD_alike zs) (by rw [← hcons]; exact hd) fun i v h' tk bs hv hr hk => go its rv as ra i v h' tk bs hv hr hk
theorem _root_.L2.Room.units65 {k : Nat} {A : Around} (r : L2.Room k A) : A.units + 65 < cLine := by have := r.un; omega
/-- t.index(p): the first place of an equal one -/
def rIndexT (K : PySem.W.Frag) : V → List V → Hp → VK → Prop := fun x xs H Q => ∃ (a c : Addr) (px py : Int) (zs : List Zp) (j : Nat) (z : Zp), x = V.ref a ∧ xs = [.ref c] ∧ SqT K H a (refs zs) ∧ Pts K H zs ∧ SqT K H c [.int px, .int py] ∧ zs[j]? = some z ∧ z.2.1 = px ∧ z.2.2 = py ∧
  (∀ (m : Nat) (w : Zp), m < j → zs[m]? = some w → ¬ (w.2.1 = px ∧ w.2.2 = py)) ∧ Q (.int (j : Nat)) H
theorem mt_indexT {X : Cx} (hu : X.A.units + 65 < cLine) : MtR X "tuple.index" (rIndexT X.K) := by
  intro pins s σ H x xs v us Q I rx rxs h
  obtain ⟨a, c, px, py, zs, j, z, rfl, rfl, hs, hp, hc, hz, e1, e2, hno, q⟩ := h
  cases rx
  obtain ⟨uy, rfl, ry⟩ := rxs.one
  obtain ⟨bs, r1⟩ := Dp.reads I _ _ uy (dP hc) ry
  obtain ⟨its, rv, ⟨⟨cls, dd, data, sls⟩, ho, hcl, n, hdt⟩, hlen⟩ := I.tuple hs
  simp only at hcl hdt
  subst hcl hdt
  obtain ⟨as, h4⟩ := Dp.readsAll I _ _ _ (dp_pts hp) rv
  have hmap : its.map (SeqAt.readOf s.heap) = ptsD zs := SeqAt.readsAll_map _ its as (ptsD_lay zs) h4
  have hil : its.length = zs.length := by have := rv.length; rw [List.length_map] at this; omega
  have hjz := (List.getElem?_eq_some_iff.mp hz).1
  have hj : j < its.toArray.size := by simp; omega
  have at_ : ∀ (m : Nat) (hm : m < its.toArray.size) (w : Zp), zs[m]? = some w → SeqAt.readOf s.heap its.toArray[m] = pD w.2.1 w.2.2 := by
    intro m hm w hw
    have hml : m < its.length := by simpa using hm
    have e : (its.map (SeqAt.readOf s.heap))[m]? = some (pD w.2.1 w.2.2) := by rw [hmap, List.getElem?_map, hw]; rfl
    rw [List.getElem?_map, List.getElem?_eq_getElem hml] at e
    have e1 : SeqAt.readOf s.heap its[m] = pD w.2.1 w.2.2 := Option.some.inj e
    simpa using e1
  have hd := ptsD_depth zs
  have hd2 := pD_depth px py
  refine call_meets PySem.F.slot_tuple_index ⟨_, ho, rfl⟩ PySem.F.entry_tuple_index (PySem.F.args_tuple_index_2 _ _) (TI.tuple_indexAt a its.toArray n dd sls uy (fun u => PyData.eqv (SeqAt.readOf s.heap u) (pD px py)) j hj ?_ ?_)
    ⟨ho, SeqAt.items_eqAt (vs := its.toArray) (show ReadsAll s.heap its.toArray.toList (ptsD zs) as from h4) r1 (ptsD_lay zs) (pD_lay _ _) (by omega), ⟨.int (j : Nat), H, I.tok _, ⟨_, rfl⟩, q⟩⟩
  · show PyData.eqv (SeqAt.readOf s.heap its.toArray[j]) _ = true
    rw [at_ j hj z hz, eqvP, e1, e2]
    exact decide_eq_true ⟨rfl, rfl⟩
  · intro m hm hmj
    obtain ⟨w, hw⟩ : ∃ w, zs[m]? = some w := ⟨_, List.getElem?_eq_getElem (by omega)⟩
    show PyData.eqv (SeqAt.readOf s.heap its.toArray[m]) _ = false
    rw [at_ m hm w hw, eqvP]
    exact decide_eq_false (hno m w hmj hw)
end My
namespace My
open PySem PySem.Spec PyProof.Rows L2
/-! ## tuples without a dict of their own: their methods can be called -/
def TN (H : Hp) (a : Addr) (xs : List V) : Prop := ∃ o : Obj, H a = some (.frz o (.tup xs)) ∧ o.dict = none
theorem TN.t {K : PySem.W.Frag} {H : Hp} {a : Addr} {xs : List V} (h : TN H a xs) : SqT K H a xs := by
  obtain ⟨o, e, _⟩ := h
  exact .inl (.inr ⟨o, e⟩)
theorem TN.same {H H' : Hp} {a : Addr} {xs : List V} (e : Same H H') (h : TN H a xs) : TN H' a xs := by
  obtain ⟨o, h, d⟩ := h
  exact ⟨o, e.get h, d⟩
theorem TN.but {H H' : Hp} {s b a : Addr} {xs : List V} (e : But s H H') (S : Strm H s b) (h : TN H a xs) : TN H' a xs := by
  obtain ⟨o, h, d⟩ := h
  obtain ⟨ys, n⟩ := S.lst
  exact ⟨o, e.get (ne_of h n (by intro z; cases z)) h, d⟩
theorem TN.here {H : Hp} {a : Addr} {xs : List V} {o : Obj} (d : o.dict = none) : TN (upd H a (.frz o (.tup xs))) a xs := ⟨o, upd_same, d⟩
section
variable {X : Cx}
theorem call_tuple_ofN : CallR X (.type "tuple") (fun xs H Q => ∃ p ys, xs = [.ref p] ∧ SqL X.K H p ys ∧ ∀ l o, H l = none → o.dict = none → Q (.ref l) (upd H l (.frz o (.tup ys)))) := by
  intro pins s σ H xs us Q I r h
  obtain ⟨p, ys, rfl, hq, q⟩ := h
  obtain ⟨u, rfl, rx⟩ := vals1 r
  cases rx
  obtain ⟨its, r', pl, hz⟩ := I.list hq
  have hlen := r'.length
  refine call_tuple_list pl.isList (fun h' kp => ?_) (by simp only [List.size_toArray] <;> omega)
  have I1 : Inv X pins σ H { s with heap := h' } := I.kept (t' := s.toks) kp
  have I2 : Inv X pins σ (upd H h'.objs.size (.frz { cls := .type "tuple", data := .seq its.toArray } (.tup ys))) { s with heap := h'.push { cls := .type "tuple", data := .seq its.toArray } } :=
    I1.laid (t' := s.toks) (fun b o e => Heap.get?_push_of_some _ e) (Nat.le_refl _) (show ObjOk X.prog X.w _ _ _ (.frz _ (.tup ys)) from ⟨Heap.get?_push_size _ rfl, hz, its, r', IsTup.new _ _⟩)
  exact ⟨.ref h'.objs.size, _, I2, rfl, q _ _ (I1.hok.fresh (Nat.le_refl _)) rfl⟩
def tRevN (K : PySem.W.Frag) (te : TE) : TE := fun σ H Q => te σ H fun x H1 => ∃ a xs, x = .ref a ∧ SqT K H1 a xs ∧ 1 ≤ xs.length ∧ ∀ p o, H1 p = none → o.dict = none → Q (.ref p) (upd H1 p (.frz o (.tup xs.reverse)))
theorem pe_revTN {e : Expr} {te : TE} {k : Nat} {p1 p2 p3 pos : Pos} (inner : PE X e te) : PE X (.Subscript e (.Slice none none (some (.UnaryOp .USub (.Constant (.int 1) k p1) p2)) p3) pos) (tRevN X.K te) := by
  refine ⟨fun pins s σ H Q I goal => ?_⟩
  refine Subscript_ (thn (inner.run pins s σ H _ I goal) fun v s1 ⟨x, H1, I1, r1, q1⟩ => ?_)
  obtain ⟨a, xs, rfl, whole, pos_, rest⟩ := q1
  cases r1
  have third : PO X (some (.UnaryOp .USub (.Constant (.int 1) k p1) p2)) (tPart (tUn (rU fun i => .int (-i)) (tC (.int 1)))) := po_some (pe_un un_neg pe_int)
  refine wpAny_Slice (thn (po_none.run pins s1 σ H1 (fun o G => o = none ∧ G = H1) I1 ⟨rfl, rfl⟩) fun vl s2 ⟨l, H2, I2, pl, el, e2⟩ => ?_)
  obtain rfl := el
  obtain rfl := e2
  refine thn (po_none.run pins s2 σ H2 (fun o G => o = none ∧ G = H2) I2 ⟨rfl, rfl⟩) fun vu s3 ⟨u, H3, I3, pu, eu, e3⟩ => ?_
  obtain rfl := eu
  obtain rfl := e3
  refine thn (third.run pins s3 σ H3 (fun o G => o = some (-1) ∧ G = H3) I3 ⟨1, rfl, -1, rfl, rfl, rfl⟩) fun vs s4 ⟨o, H4, I4, ps, eo, e4⟩ => ?_
  obtain rfl := eo
  obtain rfl := e4
  have I5 : Inv X pins σ H4 { s4 with heap := s4.heap.push { cls := .type "slice", data := .fields #[vl, vu, vs] } } := I4.kept (t' := s4.toks) (fun b ob q => Heap.get?_push_of_some _ q)
  obtain ⟨its, r, ht, hz⟩ := I5.tuple whole
  have len := r.length
  cases pl
  cases pu
  show wpAny (model X.prog X.w) X.A (subscriptTail e (.Slice none none (some (.UnaryOp .USub (.Constant (.int 1) k p1) p2)) p3) (.ref a) (.ref s4.heap.objs.size)) (EP X pins σ Q) X.xe _
  refine tail_any (ops := [.ref a, .ref s4.heap.objs.size]) ht.typeIs PyProof.Rows.slot_tuple_getitem.lookup ?_ (by with_unfolding_all rfl)
  refine HT.back_tuple ht (Heap.IsSliceOf.new _ _ _ vs) ps (by rw [List.size_toArray]; omega) (by rw [List.size_toArray]; omega) ?_
  exact ⟨.ref _, _, I5.laid (t' := s4.toks) (o := .frz { cls := .type "tuple", data := .seq its.toArray.toList.reverse.toArray } (.tup xs.reverse)) (fun b ob q => Heap.get?_push_of_some _ q) (Nat.le_refl _) ⟨Heap.get?_push_size _ rfl, by rw [List.length_reverse]; exact hz, _, r.reverse, IsTup.new _ _⟩, rfl, rest _ _ (I5.hok.fresh (Nat.le_refl _)) rfl⟩
/-- o.m(..), o such a tuple -/
def tBT (r : V → List V → Hp → VK → Prop) (to : TE) (t : TA) : TE := fun σ H Q => to σ H fun x H1 => (∃ a xs, x = .ref a ∧ TN H1 a xs) ∧ t σ H1 fun vs H2 => r x vs H2 Q
variable {o e : Expr} {es : List Expr} {to : TE} {t : TA} {name : Str} {apos cpos : Pos} {id : String} {r : V → List V → Hp → VK → Prop}
theorem pe_bmT (slot : Slot "tuple" name id) (hty : typeOf (.builtin id) = pure (.type "method_descriptor")) (hm : MtR X id r) (ho : PE X o to) (ha : PA X (e :: es) t)
    (hbase : attributeBase o name X.env (eval o X.env) = eval o X.env := by rfl)
    (hfew : ((backTo cpos (starEach (e :: es) X.env)).all (fun x => !x.1) && (backToKw cpos (keywordEach [] X.env)).all (fun x => x.1.isSome)
      && decide ((e :: es).length + ([] : List Keyword).length + (if ([] : List Keyword).isEmpty then 0 else 1) < 30)) = true := by rfl)
    (hline : (apos.endLine == cpos.line) = true := by rfl) (hs : starEach (e :: es) X.env = (false, eval e X.env) :: starEach es X.env := by rfl) (hplain : (backTo cpos (starEach es X.env)).any (·.1) = false := by rfl) :
    PE X (.Call (.Attribute o name apos) (e :: es) [] cpos) (tBT r to t) := by
  refine ⟨fun pins s σ H Q I h => ?_⟩
  refine wpAny_Call_method_late hbase hfew hline rfl (thn (ho.run pins s σ H _ I h) fun v s1 ⟨x, H1, I1, r1, ty, q1⟩ => ?_)
  obtain ⟨a, xs, rfl, ob, hob, hd⟩ := ty
  have hh : s1.heap.get? a = some ob := (I1.hok a _ hob).1
  obtain ⟨_, _, _, _, o2, ho2, hc2, _⟩ := I1.hok a _ hob
  have z := r1
  cases z
  have h1 : s1.TypeIs (.ref a) "tuple" := ⟨o2, ho2, hc2⟩
  have h2 : ∀ c, Value.ref a = .ref c → ∃ u, s1.heap.get? c = some u ∧ u.dict = none := fun c e => by cases e; exact ⟨ob, hh, hd⟩
  refine ⟨"tuple", id, PySem.F.plainAttrs_tuple, slot, hty, h1, h2, ?_⟩
  have hA := ha.run cpos pins s1 σ H1 _ I1 q1
  rw [hs] at hA ⊢
  refine Calls.callWith_builtin (by show (false || (backTo cpos (starEach es X.env)).any (·.1)) = false; rw [hplain] <;> rfl) (Calls.evalArgs_plain ?_)
  exact thn hA fun us s2 ⟨vs, H2, I2, r2, q2⟩ => hm pins s2 σ H2 _ vs _ us Q I2 r1 r2 q2
end
end My
namespace SetP
open PySem PySem.Spec PySem.Calls PyProof.Rows L2
/-! ## the set of a tuple of points; its members in order -/
abbrev bare (w : World) : Obj := { cls := .type "set", dict := none, data := .set #[] 0 (.fresh 0 0 (!w.params.followText "set-order")) }
theorem perm_inv {α β : Type} {f : α → β} : ∀ {l : List β} {m : List α}, l.Perm (m.map f) → ∃ n : List α, l = n.map f ∧ n.Perm m
  | [], m, h => by
    have e : m.map f = [] := h.symm.eq_nil
    exact ⟨[], rfl, by rw [List.map_eq_nil_iff.mp e]⟩
  | x :: l, m, h => by
    obtain ⟨y, hy, rfl⟩ := List.mem_map.mp (h.mem_iff.mp (List.mem_cons_self (a := x) (l := l)))
    obtain ⟨u, t, rfl⟩ := List.append_of_mem hy
    have h2 : l.Perm ((u ++ t).map f) := by
      refine List.Perm.cons_inv (a := f y) (h.trans ?_)
      rw [List.map_append, List.map_append, List.map_cons]
      exact List.perm_middle
    obtain ⟨n, rfl, hn⟩ := perm_inv h2
    exact ⟨y :: n, rfl, (hn.cons y).trans List.perm_middle.symm⟩
section
variable {P : Program} {w : World} {A : Around} {E : Value → Shared → Prop} {s : Shared}
theorem set_of_tuple {tp : Addr} {its : Array Value} (rows : List (Addr × List Int)) {Q : Value → Shared → Prop} (quiet : A.handled = none) (isTp : s.heap.IsTuple tp its) (same : its.toList = rows.map fun r => Value.ref r.1)
    (each : ∀ r ∈ rows, IsT P w s.heap r.2 r.1) (few : rows.length < 64) (room : A.units + 3 < cLine)
    (next : ∀ (g : Heap) (tk : Nat) L es ep t, SetTR P w g s.heap.objs.size L es ep t → Got rows rows.length L → (∀ b o, s.heap.get? b = some o → g.get? b = some o) → Q (.ref s.heap.objs.size) { s with heap := g, toks := tk }) :
    wpAny (model P w) A (call (.type "set") [.ref tp]) Q E s := by
  have size_ : its.size = rows.length := by rw [← Array.length_toList, same, List.length_map]
  obtain ⟨c1, l1, mro_⟩ := F.called_set.mro
  have made_ := F.called_set.made
  have sub_ := F.called_set.sub
  refine (wpAny_call (codeAny_of_tree (?_)))
  show wpAny _ _ (callAny (Value.type "set") _) _ _ _
  refine (wpAny_pure ⟨Code.quiet_builtin _ (by decide +kernel), codeAny_builtin F.entry_type_call (?_)⟩)
  rw [Around.under_plain (weight_type_call_type ("set") [.ref tp] []) rfl]
  have notTy := F.called_set.notType
  have canMk := F.called_set.canCreate
  have tyCall := F.typeCall_set_1 (.ref tp)
  repeat any_goals first | assumption | wp_step
  refine codeAny_mono (code_set_led1 (Value.ref tp) (E := E) (Q₁ := fun x s1 => x = Value.ref s.heap.objs.size ∧ s1 = { s with heap := s.heap.push (bare w) }) ⟨rfl, rfl⟩) fun got s1 told => ?_
  cases got with
  | error x => exact told
  | ok fl =>
    cases fl with
    | ret x =>
      obtain ⟨rfl, rfl⟩ := told
      have atSet : (s.heap.push (bare w)).get? s.heap.objs.size = some (bare w) := Heap.get?_push_size _ rfl
      have tySet : Shared.TypeIs { s with heap := s.heap.push (bare w) } (.ref s.heap.objs.size) ("set") := ⟨_, atSet, rfl⟩
      have initL := F.called_set.init.lookup
      have initB := F.called_set.init.bind (Value.ref s.heap.objs.size)
      repeat any_goals first | assumption | wp_step
      refine codeAny_mono (codeAny_call_builtin (R := wants (fun y s2 => y = Value.none ∧ ∃ g tk L es ep t, s2 = { s with heap := g, toks := tk } ∧ SetTR P w g s.heap.objs.size L es ep t ∧ Got rows rows.length L ∧
        ∀ b o, s.heap.get? b = some o → g.get? b = some o) E) F.called_set.init.plain F.entry_set_init (check_set_init_1 tySet (?_))) fun got2 s2 told2 => ?_
      · obtain ⟨ob, hob, cls_, cnt, data_⟩ := isTp
        obtain ⟨kls, dic, dat, slo⟩ := ob
        simp only at cls_ data_
        subst cls_ data_
        have atTp : (s.heap.push (bare w)).get? tp = some { cls := .type "tuple", dict := dic, data := .seq its cnt, slots := slo } := Heap.get?_push_of_some _ hob
        have no1 := F.sub_tuple_set
        have no2 := F.sub_tuple_frozenset
        have no3 : (Value.type "tuple" == Value.type "dict") = false := by decide
        have tp1 : (s.heap.push (bare w)).IsTuple tp its := ⟨_, atTp, rfl, cnt, rfl⟩
        unfold Builtin.«set.__init__»
        unfold noKeywords Builtin.Frozenset.updateFrom
        generalize pyIterIs : pyIter = walker
        wp_walk
        subst pyIterIs
        refine (wpAny_pyIter_tuple tp1 (?_))
        refine (wpAny_bind (wpAny_runValue (?_)))
        have below : tp < s.heap.objs.size := Heap.lt_size hob
        have quiet3 : A.in1.in1.in1.handled = none := by simp [quiet]
        have apart_ : tp ≠ (s.heap.push (bare w)).objs.size := by
          rw [Heap.size_push]
          exact (Nat.ne_of_lt (Nat.lt_trans below (Nat.lt_succ_self _)))
        have other : s.heap.objs.size ∉ [(s.heap.push (bare w)).objs.size, tp] := by
          rw [Heap.size_push]
          simp only [List.mem_cons, List.not_mem_nil, or_false, not_or]
          exact (And.intro (Nat.ne_of_lt (Nat.lt_succ_self _)) (Nat.ne_of_gt below))
        have told : ∀ (i : Nat) (v : Value), its[i]? = some v → ∃ r, rows[i]? = some r ∧ v = .ref r.1 := fun i v hv => by
          rw [← Array.getElem?_toList, same, List.getElem?_map] at hv
          obtain ⟨r, h1, h2⟩ := Option.map_eq_some_iff.mp hv
          exact ⟨r, h1, h2.symm⟩
        have free : ∀ b, s.heap.objs.size ≤ b → s.heap.get? b = none := fun b hb => by
          cases q : s.heap.get? b with
          | none => rfl
          | some o =>
            exact absurd (Heap.lt_size q) (Nat.not_lt.mpr hb)
        refine set_update_tups ((Walks.tuple quiet3 _ tp apart_ its).toS) s.heap.objs.size other rows size_ few told s.heap each (free _ (Nat.le_refl _)) (fun b hb => free b (by
          rw [List.mem_singleton.mp hb, Heap.size_push]
          exact Nat.le_succ _)) room (its.size - 0) 0 _ (by omega) (Nat.zero_le _) ⟨⟨_, Heap.get?_push_size _ rfl, rfl, rfl⟩, tp1.push _⟩ (fun b o e => Heap.get?_push_of_some _ (Heap.get?_push_of_some _ e)) ?first ?last
        case first =>
          exact ⟨[], #[], 0, _, setTR_fresh (Heap.get?_push_of_some _ atSet), Got.zero rows⟩
        case last =>
          intro s3 L es ep t moved is_ all_ kept
          obtain ⟨g3, n3, d3, t3, o3⟩ := s3
          obtain rfl : n3 = s.gens := moved.gens
          obtain rfl : d3 = s.drawn := moved.drawn
          obtain rfl : o3 = s.os := moved.os
          show wpAny _ _ (_) _ _ _
          refine (wpAny_pure (?_))
          show wpAny _ _ (ret (Value.none)) _ _ _
          rw [size_] at all_
          exact wpAny_pure ⟨rfl, g3, t3, L, es, ep, t, rfl, is_, all_, kept⟩
      · cases got2 with
        | error x => exact told2
        | ok fl2 =>
          cases fl2 with
          | ret y =>
            obtain ⟨rfl, g, tk, L, es, ep, t, rfl, is_, all_, kept⟩ := told2
            repeat any_goals first | assumption | wp_step
            exact next g tk L es ep t is_ all_ kept
          | _ => exact told2.elim
    | _ => exact told.elim
/-- sorted of such a set: pairs of whole numbers, of any sign -/
theorem sorted_set {a : Addr} {L : List (Addr × List Int)} {es : Array (Int × Value)} {ep : Nat} {t : SetTable} {Q : Value → Shared → Prop} (R : SetTR P w s.heap a L es ep t) (quiet : A.handled = none) (room : A.units + 64 < cLine)
    (bs : List My.Pn) (eL : L = bs.map fun b => (b.1, [b.2.1, b.2.2])) (rd : ∀ b ∈ bs, ∃ as, Reads s.heap (.ref b.1) (My.pnD b) as)
    (next : ∀ s2 p (out : List Value) (c : Nat) (bs2 : List My.Pn), (∀ b o, s.heap.get? b = some o → s2.heap.get? b = some o) → s2.gens = s.gens → s2.os = s.os → s.heap.objs.size ≤ p →
      s2.heap.get? p = some (seqObj "list" out.toArray c) → bs2.Perm bs → PySem.W.EachIs (fun v b => v = Value.ref b.1) out (bs2.mergeSort fun p q => decide (p.2.1 < q.2.1 ∨ (p.2.1 = q.2.1 ∧ p.2.2 ≤ q.2.2))) → Q (.ref p) s2) :
    wpAny (model P w) A (call (.builtin "sorted") [.ref a]) Q E s := by
  obtain ⟨o, ho, ex_, data_⟩ := R.ob
  have few := R.few
  have size_ := R.size
  refine (Calls.call_function_entry kind_sorted plain_sorted entry_sorted (args_sorted1 (Value.ref a)) (?_))
  unfold Builtin.«sorted»
  refine (wpAny_bind (m := checkCount "sorted" 1 1 _) (wpAny_pure (?_)))
  refine wpAny_bind (collect_set (A := A.in1) quiet ⟨o, ho, ex_.1, data_⟩ R.fits (by unfold scanBound; omega) R.tab.ris R.led fun s1 vs kept size1 gens1 os1 perm => ?_)
  have rows : es.toList.map (·.2) = bs.map fun b => Value.ref b.1 := by
    rw [R.rows]
    unfold rowsOf
    rw [eL, List.map_map, List.map_map]
    rfl
  rw [rows] at perm
  obtain ⟨bs1, rfl, perm1⟩ := perm_inv perm
  have few1 : bs1.length < 64 := by
    rw [perm1.length_eq]
    rw [eL, List.length_map] at few
    exact few
  refine wpAny_bind (wpAny_newList (?_) (by rw [sizeLine_eq, List.length_map]; omega))
  have at_ : (s1.heap.push (seqObj "list" (bs1.map fun b => Value.ref b.1).toArray 0)).get? s1.heap.objs.size = some (seqObj "list" (bs1.map fun b => Value.ref b.1).toArray 0) := Heap.get?_push_size _ rfl
  have each_ : ∀ (Z : Value → My.Pn → Prop) (cs : List My.Pn), (∀ b ∈ cs, Z (.ref b.1) b) → PySem.W.EachIs Z (cs.map fun b => Value.ref b.1) cs := fun Z cs => by
    induction cs with
    | nil => exact fun _ => .nil
    | cons b cs ih => exact fun h => .cons (h b (by simp)) (ih fun x hx => h x (by simp [hx]))
  have reads_ : ∀ b ∈ bs1, ∃ as, Reads (s1.heap.push (seqObj "list" (bs1.map fun b => Value.ref b.1).toArray 0)) (.ref b.1) (My.pnD b) as ∧ s1.heap.objs.size ∉ as := fun b hb => by
    obtain ⟨as, r0⟩ := rd b (perm1.mem_iff.mp hb)
    have r1 : Reads s1.heap (.ref b.1) (My.pnD b) as := PyProof.Rows.Reads.keeps kept r0
    refine ⟨as, PyProof.Rows.Reads.keeps (fun x o e => Heap.get?_push_of_some _ e) r1, fun z => ?_⟩
    obtain ⟨o, q⟩ := PyProof.On.reads_mem_get r1 _ z
    exact Nat.lt_irrefl _ (Heap.lt_size q)
  refine wpAny_bind (wpAny_holding (PySem.W.list_sort_data (s := { s1 with heap := s1.heap.push (seqObj "list" (bs1.map fun b => Value.ref b.1).toArray 0) }) (enc := My.pnD) at_ (each_ (fun v b => v = Value.ref b.1) bs1 fun b _ => rfl) (each_ (fun v b => ∃ as, Reads _ v (My.pnD b) as ∧ s1.heap.objs.size ∉ as) bs1 reads_) (PySem.W.AllAlike.of fun b b' => ?_) (PySem.W.Sortable.tuples fun b => ⟨_, _, rfl⟩) (by rw [sizeLine_eq]; omega) (fun b _ => ?_) fun out len_ ho2 => ?_))
  · unfold My.pnD My.pD
    simp [PySem.W.alike, PySem.W.alikeAll]
  · have : (My.pnD b).depth ≤ 8 := by
      unfold My.pnD My.pD
      simp [PyData.depthAll, PyData.depth]
    show A.in1.units + 1 + _ < _
    have u1 : A.in1.units ≤ A.units + 1 := Nat.le_refl _
    omega
  rw [show PySem.W.dataLe false My.pnD = fun p q : My.Pn => decide (p.2.1 < q.2.1 ∨ (p.2.1 = q.2.1 ∧ p.2.2 ≤ q.2.2)) from PySem.W.dataLe_ii (fun b : My.Pn => b.2.1) (fun b : My.Pn => b.2.2)] at ho2
  obtain ⟨c, hc⟩ := sortedHeap_at (vs := bs1.map fun b => Value.ref b.1) (out := out.toArray) at_
  refine wpAny_pure ⟨_, rfl, next _ s1.heap.objs.size out c bs1 (fun b u e => ?_) gens1 os1 size1 hc perm1 ho2⟩
  have lt1 := Heap.lt_size (kept b u e)
  show (sortedHeap (s1.heap.push (seqObj "list" (bs1.map fun b => Value.ref b.1).toArray 0)) s1.heap.objs.size (bs1.map fun b => Value.ref b.1) out.toArray).get? b = some u
  rw [sortedHeap_old (Nat.ne_of_lt lt1) (by rw [size_push']; exact Nat.lt_succ_of_lt lt1)]
  exact Heap.get?_push_of_some _ (kept b u e)
end
/-! ### the two calls -/
def row2 (b : My.Pn) : Addr × List Int := (b.1, [b.2.1, b.2.2])
theorem sub_inv {α β : Type} {f : α → β} {m : List α} : ∀ {l : List β}, (∀ x ∈ l, x ∈ m.map f) → ∃ n : List α, l = n.map f ∧ ∀ y ∈ n, y ∈ m
  | [], _ => ⟨[], rfl, fun _ h => by cases h⟩
  | x :: l, h => by
    obtain ⟨y, hy, rfl⟩ := List.mem_map.mp (h x List.mem_cons_self)
    obtain ⟨n, rfl, hn⟩ := sub_inv (m := m) (f := f) fun z hz => h z (List.mem_cons_of_mem _ hz)
    exact ⟨y :: n, rfl, fun z hz => (List.mem_cons.mp hz).elim (fun e => e ▸ hy) (hn z)⟩
def rSetP (K : PySem.W.Frag) (P : Program) (w : World) : List V → Hp → VK → Prop := fun xs H Q => ∃ (a : Addr) (zs : List My.Pn), xs = [V.ref a] ∧ SqT K H a (zs.map My.pnV) ∧ (∀ z ∈ zs, SqT K H z.1 [.int z.2.1, .int z.2.2]) ∧ zs.length < 64 ∧
  ∀ p (bs : List My.Pn), H p = none → (∀ b ∈ bs, b ∈ zs) → (∀ z ∈ zs, z.2 ∈ bs.map fun b => b.2) → Q (.ref p) (upd H p (SetTO P w p (bs.map row2)))
section
variable {X : Cx}
theorem row2_inj {b c : My.Pn} (h : (row2 b).2 = (row2 c).2) : b.2 = c.2 := by
  unfold row2 at h
  injection h with h1 h2
  injection h2 with h2
  exact Prod.ext h1 h2
theorem cr_setP (calm : X.calm = true) (room : X.A.units + 64 < cLine) : CallR X (.type "set") (rSetP X.K X.prog X.w) := by
  intro pins s σ H xs us Q I r h
  obtain ⟨a, zs, rfl, hl, hz, few, q⟩ := h
  rw [Vals.ref1 r]
  obtain ⟨its, rv, ⟨o, ho, cls_, cnt, data_⟩, _⟩ := I.tuple hl
  have ei : its = zs.map fun z => Value.ref z.1 := by
    have go : ∀ {zs : List My.Pn} {us : List Value}, Vals (zs.map My.pnV) us → us = zs.map fun z => Value.ref z.1 := fun {zs} => by
      induction zs with
      | nil => intro us h; cases h; rfl
      | cons z zs ih =>
        intro us h
        cases h with
        | cons r t =>
          have e : _ = Value.ref z.1 := r
          rw [e, ih t]
          rfl
    exact go rv
  have free : H s.heap.objs.size = none := I.hok.fresh (Nat.le_refl _)
  refine set_of_tuple (P := X.prog) (w := X.w) (zs.map row2) (I.ok.hd calm) ⟨o, ho, cls_, cnt, data_⟩ (by rw [ei, List.map_map]; rfl) (fun r hr => ?_) (by rw [List.length_map]; exact few) (by omega) fun g tk L es ep t R got kept => ?_
  · obtain ⟨z, hz1, rfl⟩ := List.mem_map.mp hr
    exact I.isT (k := [z.2.1, z.2.2]) (hz z hz1)
  · obtain ⟨bs, rfl, hb⟩ := sub_inv (f := row2) (m := zs) fun x hx => List.mem_of_mem_take (got.sub x hx)
    refine ⟨.ref s.heap.objs.size, upd H s.heap.objs.size (SetTO X.prog X.w s.heap.objs.size (bs.map row2)), I.laid (t' := tk) kept (Nat.le_refl _) (setTO_new R.t0), rfl, q _ bs free hb fun z hz2 => ?_⟩
    have := got.all (row2 z) (by rw [List.take_length]; exact List.mem_map.mpr ⟨z, hz2, rfl⟩)
    rw [List.map_map] at this
    obtain ⟨b, hb1, hb2⟩ := List.mem_map.mp this
    exact List.mem_map.mpr ⟨b, hb1, row2_inj hb2⟩
def rSortedP (K : PySem.W.Frag) (P : Program) (w : World) : List V → Hp → VK → Prop := fun vs H Q => ∃ (a : Addr) (bs : List My.Pn), vs = [V.ref a] ∧ H a = some (SetTO P w a (bs.map row2)) ∧ (∀ b ∈ bs, SqT K H b.1 [.int b.2.1, .int b.2.2]) ∧
  ∀ p (cs : List My.Pn), cs.Perm bs → (cs.map fun b => b.2).Nodup → cs.length < 64 → H p = none → Q (.ref p) (upd H p (.lst ((cs.mergeSort fun p q => decide (p.2.1 < q.2.1 ∨ (p.2.1 = q.2.1 ∧ p.2.2 ≤ q.2.2))).map My.pnV)))
theorem cr_sortedP (calm : X.calm = true) (room : X.A.units + 64 < cLine) : CallR X (.builtin "sorted") (rSortedP X.K X.prog X.w) := by
  intro pins s σ H vs us Q I r h
  obtain ⟨a, bs, rfl, ha, hb, q⟩ := h
  have R0 : SetT0 X.prog X.w s.heap a (bs.map row2) := (I.hok a _ ha).1
  obtain ⟨es, ep, t, R⟩ := R0.full fun r hr => by
    obtain ⟨b, hb1, rfl⟩ := List.mem_map.mp hr
    exact I.isT (k := [b.2.1, b.2.2]) (hb b hb1)
  rw [Vals.ref1 r]
  refine sorted_set R (I.ok.hd calm) room bs rfl (fun b hb1 => Dp.reads I _ (.ref b.1) _ (My.dP (hb b hb1)) rfl) fun s2 p out c cs kept g o hp hg perm ho => ?_
  have few : cs.length < 64 := by
    have := R.few
    rw [List.length_map] at this
    rw [perm.length_eq]
    exact this
  have nd : (cs.map fun b => b.2).Nodup := by
    have h1 := R.nd
    rw [List.map_map] at h1
    have h2 : (bs.map fun b => b.2).Nodup := by
      rw [List.nodup_iff_pairwise_ne, List.pairwise_map] at h1 ⊢
      exact h1.imp fun {b c} ne e => ne (by
        show [b.2.1, b.2.2] = [c.2.1, c.2.2]
        rw [e])
    exact (perm.map _).nodup_iff.mpr h2
  have free : H p = none := I.hok.fresh hp
  have rv := My.vals_of_each ho
  have J : Inv X pins σ (upd H p (.lst ((cs.mergeSort fun p q => decide (p.2.1 < q.2.1 ∨ (p.2.1 = q.2.1 ∧ p.2.2 ≤ q.2.2))).map My.pnV))) { s with heap := s2.heap, gens := s2.gens, drawn := s2.drawn, toks := s2.toks } :=
    I.call (ch := []) (Un.laid kept hp free) (I.hok.laid kept hp ⟨by rw [List.length_map, List.length_mergeSort, sizeLine_eq]; omega, out, c, rv, hg⟩) (by rw [g]; exact I.bare) (fun _ z => nomatch z)
  have e : s2 = { s with heap := s2.heap, gens := s2.gens, drawn := s2.drawn, toks := s2.toks } := by
    cases s2
    cases s
    cases o
    rfl
  rw [e]
  exact ⟨.ref p, _, J, rfl, q p cs perm nd few free⟩
theorem cr_setPK {P : Program} {w : World} (eP : X.prog = P) (ew : X.w = w) (calm : X.calm = true) (room : X.A.units + 64 < cLine) : CallR X (.type "set") (rSetP X.K P w) := by
  subst eP ew
  exact cr_setP calm room
theorem cr_sortedPK {P : Program} {w : World} (eP : X.prog = P) (ew : X.w = w) (calm : X.calm = true) (room : X.A.units + 64 < cLine) : CallR X (.builtin "sorted") (rSortedP X.K P w) := by
  subst eP ew
  exact cr_sortedP calm room
end
end SetP
namespace My
open PySem L2
/-! ## rows of points that go around simply -/
/-- no common point of the segments a b and c d, told by their ends and the turns -/
def Apart2 (a b c d : Pt) : Prop := box a c d = false ∧ box b c d = false ∧ box c a b = false ∧ box d a b = false ∧ ¬ (tn a b c * tn a b d < 0 ∧ tn c d a * tn c d b < 0)
/-- the segments p q and q r have only q in common -/
def Adj (p q r : Pt) : Prop := box p q r = false ∧ box r p q = false
theorem box_swap (p a b : Pt) : box p b a = box p a b := by
  have e : turnI b.1 b.2 a.1 a.2 p.1 p.2 = 0 - turnI a.1 a.2 b.1 b.2 p.1 p.2 := turn_swap ..
  unfold box boxI
  rw [e, show decide (0 - turnI a.1 a.2 b.1 b.2 p.1 p.2 = 0) = decide (turnI a.1 a.2 b.1 b.2 p.1 p.2 = 0) from decide_eq_decide.mpr (by omega)]
  have m1 : (if a.1 < b.1 then a.1 else b.1) = (if b.1 < a.1 then b.1 else a.1) := by split <;> split <;> omega
  have m2 : (if a.1 > b.1 then a.1 else b.1) = (if b.1 > a.1 then b.1 else a.1) := by split <;> split <;> omega
  have m3 : (if a.2 < b.2 then a.2 else b.2) = (if b.2 < a.2 then b.2 else a.2) := by split <;> split <;> omega
  have m4 : (if a.2 > b.2 then a.2 else b.2) = (if b.2 > a.2 then b.2 else a.2) := by split <;> split <;> omega
  rw [m1, m2, m3, m4]
theorem tn_flip (a b c : Pt) : tn b a c = 0 - tn a b c := turn_swap ..
theorem Apart2.swap1 {a b c d : Pt} (h : Apart2 a b c d) : Apart2 b a c d := by
  obtain ⟨h1, h2, h3, h4, h5⟩ := h
  refine ⟨h2, h1, by rw [box_swap]; exact h3, by rw [box_swap]; exact h4, fun ⟨q1, q2⟩ => h5 ⟨?_, ?_⟩⟩
  · rw [tn_flip, tn_flip a b] at q1
    have e : (0 - tn a b c) * (0 - tn a b d) = tn a b c * tn a b d := by grind
    rw [e] at q1
    exact q1
  · rw [Int.mul_comm]; exact q2
theorem Apart2.sym {a b c d : Pt} (h : Apart2 a b c d) : Apart2 c d a b := by
  obtain ⟨h1, h2, h3, h4, h5⟩ := h
  exact ⟨h3, h4, h1, h2, fun q => h5 ⟨q.2, q.1⟩⟩
theorem Apart2.swap2 {a b c d : Pt} (h : Apart2 a b c d) : Apart2 a b d c := h.sym.swap1.sym
theorem box_l {a b : Pt} (h : a ≠ b) : box a a b = true := by
  by_cases q : lt a b = true
  · rw [← on_box q]; exact on_a q
  · rw [Bool.not_eq_true] at q
    have g : lt b a = true := by
      cases e : lt b a with
      | true => rfl
      | false => exact absurd (lt_tri q e) h
    rw [box_swap, ← on_box g]
    exact on_b g
/-- none, exactly if they are apart -/
theorem none_iff {a b c d : Pt} (hab : lt a b = true) (hcd : lt c d = true) : meetM a b c d = .none ↔ Apart2 a b c d := by
  have R := meet_right hab hcd
  have E : ends a b c d = [] ↔ box a c d = false ∧ box b c d = false ∧ box c a b = false ∧ box d a b = false := by
    rw [← on_box hcd, ← on_box hcd, ← on_box hab, ← on_box hab]
    constructor
    · intro e
      have no : ∀ p, p ∉ ends a b c d := fun p hp => by rw [e] at hp; cases hp
      refine ⟨?_, ?_, ?_, ?_⟩
      · exact Bool.eq_false_iff.mpr fun z => no a (mem_ends.mpr (.inl ⟨rfl, z⟩))
      · exact Bool.eq_false_iff.mpr fun z => no b (mem_ends.mpr (.inr (.inl ⟨rfl, z⟩)))
      · exact Bool.eq_false_iff.mpr fun z => no c (mem_ends.mpr (.inr (.inr (.inl ⟨rfl, z⟩))))
      · exact Bool.eq_false_iff.mpr fun z => no d (mem_ends.mpr (.inr (.inr (.inr ⟨rfl, z⟩))))
    · rintro ⟨h1, h2, h3, h4⟩
      unfold ends
      simp [h1, h2, h3, h4]
  constructor
  · intro e
    by_cases en : ends a b c d = []
    · obtain ⟨h1, h2, h3, h4⟩ := E.mp en
      refine ⟨h1, h2, h3, h4, fun q => ?_⟩
      have := R.cross_ en q.1 q.2
      rw [e] at this
      unfold cross at this
      cases this
    · obtain ⟨p, hp, hl⟩ := least_of _ en
      obtain ⟨q, hq, hg⟩ := greatest_of _ en
      by_cases pq : p = q
      · subst pq
        have := R.touch_ p hp fun r hr => lt_tri (hl r hr) (hg r hr)
        rw [e] at this
        cases this
      · have := R.over_ p q hp hq pq fun r hr => ⟨hl r hr, hg r hr⟩
        rw [e] at this
        cases this
  · rintro ⟨h1, h2, h3, h4, h5⟩
    refine R.none_ (E.mpr ⟨h1, h2, h3, h4⟩) ?_
    omega
def isT : Mt → Bool
  | .touch _ => true
  | _ => false
def ord (a b : Pt) : Pt × Pt := if lt a b = true then (a, b) else (b, a)
theorem ord_lt {a b : Pt} (h : a ≠ b) : lt (ord a b).1 (ord a b).2 = true := by
  unfold ord
  by_cases q : lt a b = true
  · rw [if_pos q]; exact q
  · rw [if_neg q]
    rw [Bool.not_eq_true] at q
    cases e : lt b a with
    | true => rfl
    | false => exact absurd (lt_tri q e) h
/-- how the segments meet, their ends in any order -/
def mt2 (a b c d : Pt) : Mt := meetM (ord a b).1 (ord a b).2 (ord c d).1 (ord c d).2
theorem ord_or (a b : Pt) : ord a b = (a, b) ∨ ord a b = (b, a) := by unfold ord; split <;> simp
theorem mt2_none {a b c d : Pt} (hab : a ≠ b) (hcd : c ≠ d) : mt2 a b c d = .none ↔ Apart2 a b c d := by
  unfold mt2
  rw [none_iff (ord_lt hab) (ord_lt hcd)]
  rcases ord_or a b with e | e <;> rcases ord_or c d with f | f <;> rw [e, f]
  · exact ⟨fun h => h.swap2, fun h => h.swap2⟩
  · exact ⟨fun h => h.swap1, fun h => h.swap1⟩
  · exact ⟨fun h => h.swap1.swap2, fun h => h.swap1.swap2⟩
theorem mt2_sym {a b c d : Pt} (hab : a ≠ b) (hcd : c ≠ d) : mt2 c d a b = mt2 a b c d := meet_sym (ord_lt hab) (ord_lt hcd)
/-- two ways that follow each other touch, exactly if they have no more in common -/
theorem touch_iff {p q r : Pt} (hpq : p ≠ q) (hqr : q ≠ r) : isT (mt2 p q q r) = true ↔ Adj p q r := by
  have l1 := ord_lt hpq
  have l2 := ord_lt hqr
  have R := meet_right l1 l2
  have b1 : ∀ x, on x (ord p q).1 (ord p q).2 = box x p q := fun x => by
    rw [on_box l1]
    rcases ord_or p q with e | e <;> rw [e]
    exact box_swap ..
  have b2 : ∀ x, on x (ord q r).1 (ord q r).2 = box x q r := fun x => by
    rw [on_box l2]
    rcases ord_or q r with e | e <;> rw [e]
    exact box_swap ..
  have M : ∀ x, x ∈ ends (ord p q).1 (ord p q).2 (ord q r).1 (ord q r).2 ↔ (x = p ∨ x = q) ∧ box x q r = true ∨ (x = q ∨ x = r) ∧ box x p q = true := by
    intro x
    rw [mem_ends, b2, b2, b1, b1]
    constructor
    · rintro (⟨rfl, h⟩ | ⟨rfl, h⟩ | ⟨rfl, h⟩ | ⟨rfl, h⟩)
      · exact .inl ⟨by rcases ord_or p q with e | e <;> rw [e] <;> simp, h⟩
      · exact .inl ⟨by rcases ord_or p q with e | e <;> rw [e] <;> simp, h⟩
      · exact .inr ⟨by rcases ord_or q r with e | e <;> rw [e] <;> simp, h⟩
      · exact .inr ⟨by rcases ord_or q r with e | e <;> rw [e] <;> simp, h⟩
    · rintro (⟨h1, h⟩ | ⟨h1, h⟩)
      · rcases ord_or p q with e | e <;> rw [e] <;> rcases h1 with rfl | rfl
        · exact .inl ⟨rfl, h⟩
        · exact .inr (.inl ⟨rfl, h⟩)
        · exact .inr (.inl ⟨rfl, h⟩)
        · exact .inl ⟨rfl, h⟩
      · rcases ord_or q r with e | e <;> rw [e] <;> rcases h1 with rfl | rfl
        · exact .inr (.inr (.inl ⟨rfl, h⟩))
        · exact .inr (.inr (.inr ⟨rfl, h⟩))
        · exact .inr (.inr (.inr ⟨rfl, h⟩))
        · exact .inr (.inr (.inl ⟨rfl, h⟩))
  have hq : q ∈ ends (ord p q).1 (ord p q).2 (ord q r).1 (ord q r).2 := (M q).mpr (.inl ⟨.inr rfl, box_l hqr⟩)
  have en : ends (ord p q).1 (ord p q).2 (ord q r).1 (ord q r).2 ≠ [] := fun e => by rw [e] at hq; cases hq
  constructor
  · intro t
    have key : ∀ x, x ∈ ends (ord p q).1 (ord p q).2 (ord q r).1 (ord q r).2 → x = q := by
      intro x hx
      obtain ⟨u, hu, hl⟩ := least_of _ en
      obtain ⟨v, hv, hg⟩ := greatest_of _ en
      by_cases uv : u = v
      · subst uv
        have e1 := lt_tri (hl x hx) (hg x hx)
        have e2 := lt_tri (hl q hq) (hg q hq)
        rw [e1, e2]
      · have e := R.over_ u v hu hv uv fun w hw => ⟨hl w hw, hg w hw⟩
        unfold mt2 at t
        rw [e] at t
        cases t
    refine ⟨Bool.eq_false_iff.mpr fun z => hpq (key p ((M p).mpr (.inl ⟨.inl rfl, z⟩))), Bool.eq_false_iff.mpr fun z => hqr (key r ((M r).mpr (.inr ⟨.inr rfl, z⟩))).symm⟩
  · rintro ⟨h1, h2⟩
    have e := R.touch_ q hq fun x hx => by
      rcases (M x).mp hx with ⟨h, z⟩ | ⟨h, z⟩
      · rcases h with rfl | rfl
        · rw [h1] at z; cases z
        · rfl
      · rcases h with rfl | rfl
        · rfl
        · rw [h2] at z; cases z
    unfold mt2
    rw [e]
    rfl
/-- the i-th point, around -/
def pt (zs : List Zp) (i : Nat) : Pt := match zs[i % zs.length]? with
  | some z => z.2
  | none => (0, 0)
theorem pt_at {zs : List Zp} {i : Nat} {z : Zp} (h : zs[i]? = some z) : pt zs i = z.2 := by
  have l := (List.getElem?_eq_some_iff.mp h).1
  unfold pt
  rw [Nat.mod_eq_of_lt l, h]
theorem pt_add {zs : List Zp} (i : Nat) : pt zs (i + zs.length) = pt zs i := by unfold pt; rw [Nat.add_mod_right]
theorem pt_mod {zs : List Zp} {i j : Nat} (h : i % zs.length = j % zs.length) : pt zs i = pt zs j := by unfold pt; rw [h]
structure Simp (zs : List Zp) : Prop where
  ne : ∀ i, i < zs.length → pt zs i ≠ pt zs (i + 1)
  adj : ∀ i, i < zs.length → Adj (pt zs i) (pt zs (i + 1)) (pt zs (i + 2))
  apart : ∀ i j, i + 1 < j → j < zs.length → ¬ (i = 0 ∧ j + 1 = zs.length) → Apart2 (pt zs i) (pt zs (i + 1)) (pt zs j) (pt zs (j + 1))
/-- as the program looks at it -/
def follow (i j n : Nat) : Bool := decide (j = i + 1) || (decide (i = 0) && decide (j + 1 = n))
def Looked (zs : List Zp) : Prop := (∀ i, i < zs.length → pt zs i ≠ pt zs (i + 1)) ∧ ∀ j, j < zs.length → ∀ i, i < j → (if follow i j zs.length = true then isT (mt2 (pt zs i) (pt zs (i + 1)) (pt zs j) (pt zs (j + 1))) = true else mt2 (pt zs i) (pt zs (i + 1)) (pt zs j) (pt zs (j + 1)) = .none)
theorem looked_iff {zs : List Zp} (h3 : 3 ≤ zs.length) : Looked zs ↔ Simp zs := by
  have last : ∀ j, j + 1 = zs.length → pt zs (j + 1) = pt zs 0 ∧ pt zs (j + 2) = pt zs 1 := fun j e => by
    have h0 := pt_add (zs := zs) 0
    have h1 := pt_add (zs := zs) 1
    rw [show 0 + zs.length = j + 1 by omega] at h0
    rw [show 1 + zs.length = j + 2 by omega] at h1
    exact ⟨h0, h1⟩
  constructor
  · rintro ⟨h1, h2⟩
    refine ⟨h1, fun i hi => ?_, fun i j hij hj hn => ?_⟩
    · by_cases e : i + 1 = zs.length
      · have := h2 i hi 0 (by omega)
        rw [if_pos (by unfold follow; simp [e])] at this
        obtain ⟨e1, e2⟩ := last i e
        rw [mt2_sym (h1 i hi) (h1 0 (by omega))] at this
        have ne1 := h1 i hi
        have ne2 := h1 0 (by omega)
        rw [e1] at this ne1 ⊢
        rw [e2]
        exact (touch_iff ne1 ne2).mp this
      · have := h2 (i + 1) (by omega) i (by omega)
        rw [if_pos (by unfold follow; simp)] at this
        exact (touch_iff (h1 i hi) (h1 (i + 1) (by omega))).mp this
    · have := h2 j hj i (by omega)
      rw [if_neg (by unfold follow; simp; omega)] at this
      exact (mt2_none (h1 i (by omega)) (h1 j hj)).mp this
  · intro S
    refine ⟨S.ne, fun j hj i hij => ?_⟩
    by_cases f : follow i j zs.length = true
    · rw [if_pos f]
      by_cases e : j = i + 1
      · subst e
        exact (touch_iff (S.ne i (by omega)) (S.ne (i + 1) hj)).mpr (S.adj i (by omega))
      · have f2 : i = 0 ∧ j + 1 = zs.length := by
          unfold follow at f
          simp [e] at f
          exact f
        obtain ⟨rfl, f2⟩ := f2
        rw [mt2_sym (S.ne j hj) (S.ne 0 (by omega))]
        have ne1 := S.ne j hj
        have ne2 := S.ne 0 (by omega)
        have a := S.adj j hj
        obtain ⟨e1, e2⟩ := last j f2
        rw [e1] at ne1 a ⊢
        rw [e2] at a
        exact (touch_iff ne1 ne2).mpr a
    · rw [if_neg f]
      refine (mt2_none (S.ne i (by omega)) (S.ne j hj)).mpr (S.apart i j ?_ hj ?_)
      · unfold follow at f; simp at f; omega
      · unfold follow at f; simp at f; intro z; exact f.2 z.1 z.2
end My
namespace PySem
namespace Gx
open PySem PySem.W PySem.Calls PyProof.Rows L2 GenW
theorem step_gen {stop : Bool} {t u v : TS} {D : Ends} {wi : TI} {g : TG} {tt : TT} {te : TE} {vs : List Nat} {P : Addr} {σ : L2.St} {H : Hp}
    (h : ∀ Q' : VK, (∀ x H1, Q' x H1 = ∃ c, x = .bl c ∧ if c = true then t { D with nx := v D } σ H1 else u { D with nx := v D } σ H1) → tGen stop wi g tt te vs P σ H Q') : tSeq (tIfS (tB (tGen stop wi g tt te vs P)) t u) v D σ H := h _ fun _ _ => rfl
theorem asg_sum {g' : TG} {v : TS} {D : Ends} {wi : TI} {g : TG} {tt : TT} {te : TE} {vs : List Nat} {P : Addr} {σ : L2.St} {H : Hp}
    (h : ∀ Q' : VK, (∀ x H1, Q' x H1 = tAsg (fun _ _ k => k x H1) g' { D with nx := v D } σ H1) → tSum wi g tt te vs P σ H Q') : tSeq (tAsg (tSum wi g tt te vs P) g') v D σ H := h _ fun _ _ => rfl
end Gx
end PySem
namespace My
open PySem L2
/-! ## rings at addresses -/
theorem op_eqK {X : Cx} {K : PySem.W.Frag} (hK : X.K = K) (hu : X.A.units + 64 < cLine) : OpR X (compareOp .Eq) (rPP K fun ax ay bx dy => .bl (decide (ax = bx ∧ ay = dy))) := by
  subst hK
  exact op_eqP hu
theorem ring_row {zs : List Zp} {i : Nat} {u : Zp} (h : (zs ++ zs.take 1)[i]? = some u) : pt zs i = u.2 ∧ u ∈ zs := by
  by_cases l : i < zs.length
  · rw [List.getElem?_append_left l] at h
    exact ⟨pt_at h, List.mem_of_getElem? h⟩
  · rw [List.getElem?_append_right (by omega)] at h
    have lt := (List.getElem?_eq_some_iff.mp h).1
    rw [List.length_take] at lt
    have e : i = 0 + zs.length := by omega
    rw [show i - zs.length = 0 by omega, List.getElem?_take_of_lt (by decide)] at h
    rw [e, pt_add]
    exact ⟨pt_at h, List.mem_of_getElem? h⟩
theorem ring_next {zs : List Zp} {i : Nat} (h : i < zs.length) : ∃ u w, zs[i]? = some u ∧ (zs.drop 1 ++ zs.take 1)[i]? = some w ∧ u ∈ zs ∧ w ∈ zs ∧ pt zs i = u.2 ∧ pt zs (i + 1) = w.2 := by
  obtain ⟨u, hu⟩ : ∃ u, zs[i]? = some u := ⟨_, List.getElem?_eq_getElem h⟩
  obtain ⟨w, hw⟩ : ∃ w, (zs.drop 1 ++ zs.take 1)[i]? = some w := ⟨_, List.getElem?_eq_getElem (by rw [List.length_append, List.length_drop, List.length_take]; omega)⟩
  have e : (zs ++ zs.take 1)[i + 1]? = some w := by
    obtain ⟨z, r, rfl⟩ : ∃ z r, zs = z :: r := by
      cases zs with
      | nil => cases h
      | cons z r => exact ⟨z, r, rfl⟩
    exact hw
  obtain ⟨e1, e2⟩ := ring_row e
  exact ⟨u, w, hu, hw, List.mem_of_getElem? hu, e2, pt_at hu, e1⟩
theorem row_at {zs : List Zp} {i : Nat} (h : i < zs.length) : ∃ u w, (zs ++ zs.take 1)[i]? = some u ∧ (zs ++ zs.take 1)[i + 1]? = some w ∧ u ∈ zs ∧ w ∈ zs ∧ pt zs i = u.2 ∧ pt zs (i + 1) = w.2 := by
  have ll : (zs ++ zs.take 1).length = zs.length + 1 := by rw [List.length_append, List.length_take]; omega
  obtain ⟨u, hu⟩ : ∃ u, (zs ++ zs.take 1)[i]? = some u := ⟨_, List.getElem?_eq_getElem (by omega)⟩
  obtain ⟨w, hw⟩ : ∃ w, (zs ++ zs.take 1)[i + 1]? = some w := ⟨_, List.getElem?_eq_getElem (by omega)⟩
  exact ⟨u, w, hu, hw, (ring_row hu).2, (ring_row hw).2, (ring_row hu).1, (ring_row hw).1⟩
theorem row_len {zs : List Zp} (h : 1 ≤ zs.length) : (zs ++ zs.take 1).length = zs.length + 1 := by rw [List.length_append, List.length_take]; omega
section
variable {K : PySem.W.Frag} {H H' : Hp}
theorem EdgeAt.ord {g : Addr} {u w : Zp} (h : EdgeAt K H g u w) : ∃ a c, SegAt K H g a c (My.ord u.2 w.2).1.1 (My.ord u.2 w.2).1.2 (My.ord u.2 w.2).2.1 (My.ord u.2 w.2).2.2 := by
  rcases h with h | h
  · have e : My.ord u.2 w.2 = (u.2, w.2) := if_pos h.lt
    rw [e]
    exact ⟨_, _, h⟩
  · have l : lt u.2 w.2 = false := lt_le h.lt
    have e : My.ord u.2 w.2 = (w.2, u.2) := if_neg (by rw [l]; decide)
    rw [e]
    exact ⟨_, _, h⟩
/-- the first item of an answer, a text -/
def mtS : Mt → Str
  | .none => "none"
  | .touch _ => "touch"
  | .over _ _ => "overlap"
  | .cross _ _ => "cross"
theorem MtAt.first {v : V} {m : Mt} (h : MtAt K H v m) : ∃ p xs, v = .ref p ∧ SqT K H p xs ∧ atI xs 0 = some (.str (mtS m)) := by
  cases m with
  | none => obtain ⟨p, rfl, h⟩ := h; exact ⟨p, _, rfl, h, at0⟩
  | touch P => obtain ⟨p, q, rfl, h, _⟩ := h; exact ⟨p, _, rfl, h, at0⟩
  | over P R => obtain ⟨p, q, r, rfl, h, _⟩ := h; exact ⟨p, _, rfl, h, at0⟩
  | cross x y => obtain ⟨p, q, r, rfl, h, _⟩ := h; exact ⟨p, _, rfl, h, at0⟩
theorem mtS_touch {m : Mt} : mtS m = "touch" ↔ isT m = true := by
  cases m <;> simp [mtS, isT] <;> decide
theorem mtS_none {m : Mt} : mtS m = "none" ↔ m = .none := by
  cases m <;> simp [mtS] <;> decide
end
end My
namespace My
open PySem L2
/-! ## where a point lies: edges that cross the ray to the east -/
def eastB (p a b : Pt) : Bool := if a.2 < b.2 then decide (a.2 ≤ p.2) && decide (p.2 < b.2) && decide (0 < tn a b p) else decide (b.2 ≤ p.2) && decide (p.2 < a.2) && decide (0 < tn b a p)
theorem box_iff {p a b : Pt} : box p a b = true ↔ tn a b p = 0 ∧ ((a.1 ≤ p.1 ∧ p.1 ≤ b.1) ∨ (b.1 ≤ p.1 ∧ p.1 ≤ a.1)) ∧ ((a.2 ≤ p.2 ∧ p.2 ≤ b.2) ∨ (b.2 ≤ p.2 ∧ p.2 ≤ a.2)) := by
  unfold box boxI tn
  simp only [Bool.and_eq_true, decide_eq_true_eq]
  constructor
  · rintro ⟨h1, h2⟩
    refine ⟨h1, ?_, ?_⟩ <;> (revert h2; (repeat' split) <;> omega)
  · rintro ⟨h1, h2, h3⟩
    refine ⟨h1, ?_⟩
    (repeat' split) <;> omega
theorem prod_nn {x y : Int} (h1 : 0 ≤ x) (h2 : 0 ≤ y) : 0 ≤ x * y := Int.mul_nonneg h1 h2
theorem prod_np {x y : Int} (h1 : 0 ≤ x) (h2 : y ≤ 0) : x * y ≤ 0 := by
  have := Int.mul_nonneg h1 (show 0 ≤ 0 - y by omega)
  rw [show x * (0 - y) = 0 - x * y by grind] at this
  omega
theorem tn_cyc (a b c : Pt) : tn b c a = tn a b c := turn_cyc ..
def b2n (b : Bool) : Nat := if b = true then 1 else 0
end My
namespace My
open PySem L2
/-! ## rings, and where a point lies -/
structure RingOk (zs : List Zp) : Prop where
  l3 : 3 ≤ zs.length
  lm : zs.length ≤ 40
  simp : Simp zs
  pos : 0 < around zs
  least : ∀ w ∈ zs, lt w.2 (pt zs 0) = false
def onRing (p : Pt) (zs : List Zp) : Bool := (List.range zs.length).any fun i => box p (pt zs i) (pt zs (i + 1))
def cntE (p : Pt) (zs : List Zp) : Nat → Nat
  | 0 => 0
  | i + 1 => cntE p zs i + b2n (eastB p (pt zs i) (pt zs (i + 1)))
def placeS (p : Pt) (zs : List Zp) : Str := if onRing p zs = true then "on" else if cntE p zs zs.length % 2 = 1 then "in" else "out"
theorem onRing_no {p : Pt} {zs : List Zp} (h : ∀ i, i < zs.length → box p (pt zs i) (pt zs (i + 1)) = false) : onRing p zs = false := by
  unfold onRing
  rw [List.any_eq_false]
  intro i hi
  rw [h i (List.mem_range.mp hi)]
  decide
theorem onRing_yes {p : Pt} {zs : List Zp} {i : Nat} (hi : i < zs.length) (h : box p (pt zs i) (pt zs (i + 1)) = true) : onRing p zs = true := by
  unfold onRing
  rw [List.any_eq_true]
  exact ⟨i, List.mem_range.mpr hi, h⟩
theorem box_ord {p a b : Pt} (h : a ≠ b) : on p (ord a b).1 (ord a b).2 = box p a b := by
  rw [on_box (ord_lt h)]
  rcases ord_or a b with e | e <;> rw [e]
  exact box_swap ..
theorem b2n_le (b : Bool) : b2n b ≤ 1 := by cases b <;> decide
theorem cntE_le (p : Pt) (zs : List Zp) : ∀ i, cntE p zs i ≤ i
  | 0 => Nat.le_refl _
  | i + 1 => by
    have := cntE_le p zs i
    have := b2n_le (eastB p (pt zs i) (pt zs (i + 1)))
    show cntE p zs i + _ ≤ _
    omega
/-- the ring that points are made -/
structure Made (zs ws : List Zp) : Prop where
  ex : ∃ ys j z, ys = (if around zs < 0 then zs.reverse else zs) ∧ ys[j]? = some z ∧ (∀ w ∈ ys, lt w.2 z.2 = false) ∧ (∀ (m : Nat) (w : Zp), m < j → ys[m]? = some w → w.2 ≠ z.2) ∧ ws = ys.drop j ++ ys.take j
theorem first_idx : ∀ (ys : List Zp) (z : Zp), z ∈ ys → ∃ j w, ys[j]? = some w ∧ w.2 = z.2 ∧ ∀ (m : Nat) (u : Zp), m < j → ys[m]? = some u → u.2 ≠ z.2
  | [], z, h => by cases h
  | y :: ys, z, h => by
    by_cases e : y.2 = z.2
    · exact ⟨0, y, rfl, e, fun m u hm => absurd hm (Nat.not_lt_zero _)⟩
    · have hz : z ∈ ys := by
        rcases List.mem_cons.mp h with rfl | h
        · exact absurd rfl e
        · exact h
      obtain ⟨j, w, h1, h2, h3⟩ := first_idx ys z hz
      refine ⟨j + 1, w, h1, h2, fun m u hm hu => ?_⟩
      cases m with
      | zero => cases hu; exact e
      | succ m => exact h3 m u (by omega) hu
theorem Made.mem {zs ws : List Zp} (h : Made zs ws) : ∀ z ∈ ws, z ∈ zs := by
  obtain ⟨ys, j, z, e1, h1, h2, h3, rfl⟩ := h.ex
  intro w hw
  have hy : w ∈ ys := (List.mem_append.mp hw).elim List.mem_of_mem_drop List.mem_of_mem_take
  rw [e1] at hy
  split at hy
  · exact List.mem_reverse.mp hy
  · exact hy
theorem Made.len {zs ws : List Zp} (h : Made zs ws) : ws.length = zs.length := by
  obtain ⟨ys, j, z, e1, h1, h2, h3, rfl⟩ := h.ex
  have : ys.length = zs.length := by rw [e1]; split <;> simp
  rw [List.length_append, List.length_drop, List.length_take]
  omega
theorem Made.pos {zs ws : List Zp} (h : Made zs ws) (n : around zs ≠ 0) : 0 < around ws := by
  obtain ⟨ys, j, z, e1, h1, h2, h3, rfl⟩ := h.ex
  rw [around_turned, List.take_append_drop, e1]
  split
  · rw [around_back]; omega
  · omega
theorem Made.least {zs ws : List Zp} (h : Made zs ws) : ∀ w ∈ ws, lt w.2 (pt ws 0) = false := by
  obtain ⟨ys, j, z, e1, h1, h2, h3, rfl⟩ := h.ex
  have hj := (List.getElem?_eq_some_iff.mp h1).1
  have e : (ys.drop j ++ ys.take j)[0]? = some z := by
    rw [List.getElem?_append_left (by rw [List.length_drop]; omega), List.getElem?_drop, Nat.add_zero]
    exact h1
  intro w hw
  rw [pt_at e]
  exact h2 w ((List.mem_append.mp hw).elim List.mem_of_mem_drop List.mem_of_mem_take)
/-! ### triangles -/
theorem tri_adj {a b c : Pt} (h : tn a b c ≠ 0) : Adj a b c := by
  constructor
  · refine Bool.eq_false_iff.mpr fun z => h ?_
    have := (box_iff.mp z).1
    rw [← tn_cyc]; exact this
  · exact Bool.eq_false_iff.mpr fun z => h (box_iff.mp z).1
theorem tn_ne1 {a b c : Pt} (h : tn a b c ≠ 0) : a ≠ b := fun e => h (by subst e; unfold tn turnI; grind)
end My
namespace My
open PySem L2
/-! ## how a law looks whether points go around simply; begun elsewhere, backwards -/
/-! ### begun elsewhere -/
theorem pt_turn1 {z : Zp} {r : List Zp} (i : Nat) : pt (r ++ [z]) i = pt (z :: r) (i + 1) := by
  have ln : (r ++ [z]).length = (z :: r).length := by simp
  have go : ∀ i, i < (z :: r).length → pt (r ++ [z]) i = pt (z :: r) (i + 1) := fun i hi => by
    by_cases e : i < r.length
    · obtain ⟨u, hu⟩ : ∃ u, r[i]? = some u := ⟨_, List.getElem?_eq_getElem e⟩
      rw [pt_at (z := u) (by rw [List.getElem?_append_left e]; exact hu), pt_at (z := u) (by simpa using hu)]
    · have e : i = r.length := by simp at hi; omega
      subst e
      rw [pt_at (z := z) (by simp), show r.length + 1 = 0 + (z :: r).length by simp, pt_add, pt_at (z := z) rfl]
  have m : i % (z :: r).length < (z :: r).length := Nat.mod_lt _ (by simp)
  rw [pt_mod (zs := r ++ [z]) (i := i) (j := i % (z :: r).length) (by rw [ln, Nat.mod_mod]), go _ m]
  exact pt_mod (by rw [Nat.add_mod, Nat.mod_mod, ← Nat.add_mod])
theorem Simp.turn1 {z : Zp} {r : List Zp} (h : Simp (z :: r)) : Simp (r ++ [z]) := by
  have ln : (r ++ [z]).length = (z :: r).length := by simp
  have P : ∀ k j : Nat, k = j + (z :: r).length → pt (z :: r) k = pt (z :: r) j := fun k j e => by rw [e]; exact pt_add j
  refine ⟨fun i hi => ?_, fun i hi => ?_, fun i j hij hj hn => ?_⟩
  · rw [ln] at hi
    rw [pt_turn1, pt_turn1]
    by_cases e : i + 1 < (z :: r).length
    · exact h.ne _ e
    · rw [P (i + 1) 0 (by omega), P (i + 1 + 1) (0 + 1) (by omega)]
      exact h.ne 0 (by omega)
  · rw [ln] at hi
    rw [pt_turn1, pt_turn1, pt_turn1]
    by_cases e : i + 1 < (z :: r).length
    · exact h.adj _ e
    · rw [P (i + 1) 0 (by omega), P (i + 1 + 1) (0 + 1) (by omega), P (i + 2 + 1) (0 + 2) (by omega)]
      exact h.adj 0 (by omega)
  · rw [ln] at hj hn
    rw [pt_turn1, pt_turn1, pt_turn1, pt_turn1]
    by_cases e : j + 1 < (z :: r).length
    · exact h.apart _ _ (by omega) e (by omega)
    · rw [P (j + 1) 0 (by omega), P (j + 1 + 1) (0 + 1) (by omega)]
      exact (h.apart 0 (i + 1) (by omega) (by omega) (by omega)).sym
theorem Simp.turned : ∀ (as bs : List Zp), Simp (as ++ bs) → Simp (bs ++ as)
  | [], bs, h => by rw [List.append_nil]; exact h
  | a :: as, bs, h => by
    have h1 : Simp ((as ++ bs) ++ [a]) := Simp.turn1 h
    rw [List.append_assoc] at h1
    have := Simp.turned as (bs ++ [a]) h1
    rw [List.append_assoc] at this
    exact this
/-! ### backwards -/
theorem pt_back {zs : List Zp} {i : Nat} (hi : i < 2 * zs.length) : pt zs.reverse i = pt zs (2 * zs.length - 1 - i) := by
  have go : ∀ i, i < zs.length → pt zs.reverse i = pt zs (zs.length - 1 - i) := fun i hi => by
    obtain ⟨u, hu⟩ : ∃ u, zs[zs.length - 1 - i]? = some u := ⟨_, List.getElem?_eq_getElem (by omega)⟩
    rw [pt_at hu]
    exact pt_at (by rw [List.getElem?_reverse (by omega)]; exact hu)
  by_cases e : i < zs.length
  · rw [go i e, show 2 * zs.length - 1 - i = zs.length - 1 - i + zs.length by omega, pt_add]
  · have e1 : i = i - zs.length + zs.reverse.length := by rw [List.length_reverse]; omega
    have e2 : 2 * zs.length - 1 - i = zs.length - 1 - (i - zs.length) := by omega
    rw [e1, pt_add, go _ (by omega), ← e1, e2]
theorem Adj.back {p q r : Pt} (h : Adj p q r) : Adj r q p := ⟨by rw [box_swap]; exact h.2, by rw [box_swap]; exact h.1⟩
theorem Simp.back {zs : List Zp} (l : 3 ≤ zs.length) (h : Simp zs) : Simp zs.reverse := by
  have P : ∀ k j : Nat, k = j + zs.length → pt zs k = pt zs j := fun k j e => by rw [e]; exact pt_add j
  have ln : zs.reverse.length = zs.length := List.length_reverse
  refine ⟨fun i hi => ?_, fun i hi => ?_, fun i j hij hj hn => ?_⟩
  · rw [ln] at hi
    rw [pt_back (by omega), pt_back (by omega)]
    by_cases e : i + 1 < zs.length
    · rw [P (2 * zs.length - 1 - i) (zs.length - 2 - i + 1) (by omega), P (2 * zs.length - 1 - (i + 1)) (zs.length - 2 - i) (by omega)]
      exact (h.ne _ (by omega)).symm
    · rw [show 2 * zs.length - 1 - i = zs.length - 1 + 1 by omega, show 2 * zs.length - 1 - (i + 1) = zs.length - 1 by omega]
      exact (h.ne _ (by omega)).symm
  · rw [ln] at hi
    rw [pt_back (by omega), pt_back (by omega), pt_back (by omega)]
    by_cases e : i + 2 < zs.length
    · rw [P (2 * zs.length - 1 - i) (zs.length - 3 - i + 2) (by omega), P (2 * zs.length - 1 - (i + 1)) (zs.length - 3 - i + 1) (by omega), P (2 * zs.length - 1 - (i + 2)) (zs.length - 3 - i) (by omega)]
      exact (h.adj _ (by omega)).back
    · rw [show 2 * zs.length - 1 - i = 2 * zs.length - 3 - i + 2 by omega, show 2 * zs.length - 1 - (i + 1) = 2 * zs.length - 3 - i + 1 by omega, show 2 * zs.length - 1 - (i + 2) = 2 * zs.length - 3 - i by omega]
      exact (h.adj _ (by omega)).back
  · rw [ln] at hj hn
    rw [pt_back (by omega), pt_back (by omega), pt_back (by omega), pt_back (by omega)]
    rw [P (2 * zs.length - 1 - i) (zs.length - 2 - i + 1) (by omega), P (2 * zs.length - 1 - (i + 1)) (zs.length - 2 - i) (by omega)]
    by_cases e : j + 1 < zs.length
    · rw [P (2 * zs.length - 1 - j) (zs.length - 2 - j + 1) (by omega), P (2 * zs.length - 1 - (j + 1)) (zs.length - 2 - j) (by omega)]
      exact ((h.apart (zs.length - 2 - j) (zs.length - 2 - i) (by omega) (by omega) (by omega)).swap1.swap2).sym
    · rw [show 2 * zs.length - 1 - j = zs.length - 1 + 1 by omega, show 2 * zs.length - 1 - (j + 1) = zs.length - 1 by omega]
      exact (h.apart (zs.length - 2 - i) (zs.length - 1) (by omega) (by omega) (by omega)).swap1.swap2
theorem Made.simp {zs ws : List Zp} (m : Made zs ws) (l : 3 ≤ zs.length) (h : Simp zs) : Simp ws := by
  obtain ⟨ys, j, z, e1, h1, h2, h3, rfl⟩ := m.ex
  refine Simp.turned (ys.take j) (ys.drop j) ?_
  rw [List.take_append_drop, e1]
  split
  · exact h.back l
  · exact h
/-- the ways as a law lists them: the i-th leads to the i-th point -/
structure WayAt (K : PySem.W.Frag) (H : Hp) (g : Addr) (u w : Zp) (a b : Pt) : Prop where
  t : SqT K H g [.ref u.1, .ref w.1]
  o : (u.2, w.2) = ord a b
theorem WayAt.same {K : PySem.W.Frag} {H H' : Hp} {g : Addr} {u w : Zp} {a b : Pt} (e : Same H H') (h : WayAt K H g u w a b) : WayAt K H' g u w a b := ⟨tSame e h.t, h.o⟩
/-! ### lists or tuples of points -/
def SqE (K : PySem.W.Frag) (H : Hp) (a : Addr) (xs : List V) : Prop := SqL K H a xs ∨ SqT K H a xs
section
variable {K : PySem.W.Frag} {H H' : Hp} {p : Addr} {xs : List V}
theorem SqE.same (e : Same H H') (h : SqE K H p xs) : SqE K H' p xs := h.elim (fun h => .inl (e.seq h)) fun h => .inr (tSame e h)
end
/-! ### two ways meet, step by step -/
end My
namespace My
open PySem L2
/-! ## polygons: edges, cuts -/
abbrev Eg := Pt × Pt
/-- two segments have no more in common than an end of both -/
def OK2 (a b c d : Pt) : Prop := (box a c d = true → a = c ∨ a = d) ∧ (box b c d = true → b = c ∨ b = d) ∧ (box c a b = true → c = a ∨ c = b) ∧ (box d a b = true → d = a ∨ d = b) ∧ ¬ (tn a b c * tn a b d < 0 ∧ tn c d a * tn c d b < 0)
theorem OK2.sym {a b c d : Pt} (h : OK2 a b c d) : OK2 c d a b := ⟨h.2.2.1, h.2.2.2.1, h.1, h.2.1, fun q => h.2.2.2.2 ⟨q.2, q.1⟩⟩
def Smp (X : List Eg) : Prop := ∀ e ∈ X, ∀ f ∈ X, e ≠ f → OK2 e.1 e.2 f.1 f.2
theorem Smp.sub {X Y : List Eg} (h : Smp X) (s : ∀ e ∈ Y, e ∈ X) : Smp Y := fun e he f hf n => h e (s e he) f (s f hf) n
theorem OK2.self (a b : Pt) : OK2 a b a b := by
  refine ⟨fun _ => .inl rfl, fun _ => .inr rfl, fun _ => .inl rfl, fun _ => .inr rfl, fun q => ?_⟩
  have := q.1
  rw [tn_a, Int.zero_mul] at this
  omega
theorem Smp.ok {X : List Eg} (h : Smp X) {e f : Eg} (he : e ∈ X) (hf : f ∈ X) : OK2 e.1 e.2 f.1 f.2 := by
  by_cases q : e = f
  · subst q; exact OK2.self ..
  · exact h e he f hf q
/-! weights of a point in a triangle a v b, times the triangle's own turn -/
def wA (a v b p : Pt) : Int := tn a v b * tn v b p
def wB (a v b p : Pt) : Int := tn a v b * tn b a p
def wC (a v b p : Pt) : Int := tn a v b * tn a v p
def In3 (a v b p : Pt) : Prop := 0 ≤ wA a v b p ∧ 0 ≤ wB a v b p ∧ 0 ≤ wC a v b p
theorem wA_a (a v b : Pt) : wA a v b a = tn a v b * tn a v b := by unfold wA tn turnI; grind
theorem wA_v (a v b : Pt) : wA a v b v = 0 := by unfold wA; rw [tn_a, Int.mul_zero]
theorem wA_b (a v b : Pt) : wA a v b b = 0 := by unfold wA; rw [tn_b, Int.mul_zero]
theorem wB_a (a v b : Pt) : wB a v b a = 0 := by unfold wB; rw [tn_b, Int.mul_zero]
theorem wB_v (a v b : Pt) : wB a v b v = tn a v b * tn a v b := by unfold wB tn turnI; grind
theorem wB_b (a v b : Pt) : wB a v b b = 0 := by unfold wB; rw [tn_a, Int.mul_zero]
theorem wC_a (a v b : Pt) : wC a v b a = 0 := by unfold wC; rw [tn_a, Int.mul_zero]
theorem wC_v (a v b : Pt) : wC a v b v = 0 := by unfold wC; rw [tn_b, Int.mul_zero]
theorem wC_b (a v b : Pt) : wC a v b b = tn a v b * tn a v b := rfl
theorem In3.a (a w b : Pt) : In3 a w b a := by
  refine ⟨?_, ?_, ?_⟩
  · rw [wA_a]; exact sq_nn _
  · rw [wB_a]; omega
  · rw [wC_a]; omega
theorem In3.w (a w b : Pt) : In3 a w b w := by
  refine ⟨?_, ?_, ?_⟩
  · rw [wA_v]; omega
  · rw [wB_v]; exact sq_nn _
  · rw [wC_v]; omega
theorem In3.b (a w b : Pt) : In3 a w b b := by
  refine ⟨?_, ?_, ?_⟩
  · rw [wA_b]; omega
  · rw [wB_b]; omega
  · rw [wC_b]; exact sq_nn _
end My
namespace My
open PySem L2
/-! ## what goes around simply has an area, and its sign is that of the turn at its least point -/
theorem Smp.cons {X : List Eg} {a b : Pt} (S : Smp X) (h : ∀ e ∈ X, OK2 a b e.1 e.2) : Smp ((a, b) :: X) := by
  intro e he f hf n
  rcases List.mem_cons.mp he with rfl | he <;> rcases List.mem_cons.mp hf with rfl | hf
  · exact absurd rfl n
  · exact h f hf
  · exact (h e he).sym
  · exact S e he f hf n
end My
namespace My
open PySem L2
/-! ## a row that goes around simply has an area -/
theorem Apart2.ok {a b c d : Pt} (h : Apart2 a b c d) : OK2 a b c d := ⟨fun z => by rw [h.1] at z; exact Bool.noConfusion z, fun z => by rw [h.2.1] at z; exact Bool.noConfusion z, fun z => by rw [h.2.2.1] at z; exact Bool.noConfusion z, fun z => by rw [h.2.2.2.1] at z; exact Bool.noConfusion z, h.2.2.2.2⟩
theorem Adj.ok {p q r : Pt} (h : Adj p q r) : OK2 p q q r := by
  refine ⟨fun z => by rw [h.1] at z; exact Bool.noConfusion z, fun _ => .inl rfl, fun _ => .inr rfl, fun z => by rw [h.2] at z; exact Bool.noConfusion z, fun z => ?_⟩
  have := z.1
  rw [tn_b, Int.zero_mul] at this
  omega
theorem Simp.inj {zs : List Zp} (S : Simp zs) {i j : Nat} (hij : i < j) (hj : j < zs.length) : pt zs i ≠ pt zs j := by
  intro z
  by_cases c : j = i + 1
  · subst c; exact S.ne i (by omega) z
  · by_cases d : i = 0 ∧ j + 1 = zs.length
    · obtain ⟨rfl, d⟩ := d
      refine S.ne j hj ?_
      rw [← z, d]
      have := pt_add (zs := zs) 0
      rw [Nat.zero_add] at this
      exact this.symm
    · have := (S.apart i j (by omega) hj d).1
      rw [z, box_l (S.ne j hj)] at this
      cases this
end My
namespace My
open PySem L2
/-! ## rows of points that are one row, begun elsewhere or backwards -/
abbrev crd (zs : List Zp) : List Pt := zs.map fun z => z.2
/-- a row of the points, begun elsewhere, or backwards -/
def RowOf (ps rs : List Zp) : Prop := (∃ t, rs = ps.drop t ++ ps.take t) ∨ ∃ t, rs = (ps.drop t ++ ps.take t).reverse
theorem RowOf.simp {ps rs : List Zp} (h : RowOf ps rs) (R : RingOk rs) : Simp ps := by
  rcases h with ⟨t, rfl⟩ | ⟨t, rfl⟩
  · have := Simp.turned _ _ R.simp
    rwa [List.take_append_drop] at this
  · have := R.simp.back R.l3
    rw [List.reverse_reverse] at this
    have := Simp.turned _ _ this
    rwa [List.take_append_drop] at this
end My
namespace My
open PySem L2
/-! ## chains that turn left -/
theorem int_or (a b : Int) : a < b ∨ b ≤ a := by omega
def cx2 (u v : Pt) : Int := u.1 * v.2 - u.2 * v.1
def fwd (u : Pt) : Prop := 0 < u.1 ∨ (u.1 = 0 ∧ 0 < u.2)
theorem crs3 (u v w : Pt) : v.1 * cx2 u w = w.1 * cx2 u v + u.1 * cx2 v w := by unfold cx2; grind
theorem pos_of_mul {a b : Int} (h : 0 < a) (g : 0 < a * b) : 0 < b := by
  rcases int_or 0 b with q | q
  · exact q
  · have := Int.mul_le_mul_of_nonneg_left q (Int.le_of_lt h)
    omega
theorem nonneg_of_mul {a b : Int} (h : 0 < a) (g : 0 ≤ a * b) : 0 ≤ b := by
  rcases int_or b 0 with q | q
  · have := Int.mul_neg_of_pos_of_neg h q
    omega
  · exact q
theorem fwd_nn {u : Pt} (h : fwd u) : 0 ≤ u.1 := by unfold fwd at h; omega
theorem turns2 {u v w : Pt} (hu : fwd u) (hv : fwd v) (hw : fwd w) (h1 : 0 ≤ cx2 u v) (h2 : 0 < cx2 v w) : 0 < cx2 u w := by
  have I := crs3 u v w
  have w0 := fwd_nn hw
  have a1 := Int.mul_nonneg w0 h1
  rcases hv with hv | ⟨hv, hv2⟩
  · refine pos_of_mul hv ?_
    rcases hu with hu | ⟨hu, hu2⟩
    · have := Int.mul_pos hu h2
      omega
    · exfalso
      have := Int.mul_pos hu2 hv
      unfold cx2 at h1
      rw [hu, Int.zero_mul] at h1
      omega
  · exfalso
    have := Int.mul_nonneg (Int.le_of_lt hv2) w0
    unfold cx2 at h2
    rw [hv, Int.zero_mul] at h2
    omega
theorem turns3 {u v w : Pt} (hu : fwd u) (hv : fwd v) (hw : fwd w) (h1 : 0 < cx2 u v) (h2 : 0 ≤ cx2 v w) : 0 < cx2 u w := by
  have I := crs3 u v w
  have w0 := fwd_nn hw
  have u0 := fwd_nn hu
  rcases hv with hv | ⟨hv, hv2⟩
  · refine pos_of_mul hv ?_
    have a2 := Int.mul_nonneg u0 h2
    rcases hw with hw | ⟨hw, hw2⟩
    · have := Int.mul_pos hw h1
      omega
    · have h3 : 0 < cx2 v w := by
        unfold cx2
        rw [hw, Int.mul_zero]
        have := Int.mul_pos hv hw2
        omega
      rcases hu with hu | ⟨hu, hu2⟩
      · have := Int.mul_pos hu h3
        rw [hw, Int.zero_mul] at I
        omega
      · exfalso
        have := Int.mul_pos hu2 hv
        unfold cx2 at h1
        rw [hu, Int.zero_mul] at h1
        omega
  · have e1 : cx2 u v = u.1 * v.2 := by unfold cx2; rw [hv, Int.mul_zero, Int.sub_zero]
    have e2 : cx2 v w = 0 - v.2 * w.1 := by unfold cx2; rw [hv, Int.zero_mul]
    have u1 : 0 < u.1 := by
      rcases int_or 0 u.1 with q | q
      · exact q
      · have : u.1 = 0 := by omega
        rw [e1, this, Int.zero_mul] at h1
        omega
    have w1 : w.1 = 0 := by
      rcases int_or 0 w.1 with q | q
      · have := Int.mul_pos hv2 q
        omega
      · omega
    have w2 : 0 < w.2 := by unfold fwd at hw; omega
    unfold cx2
    rw [w1, Int.mul_zero]
    have := Int.mul_pos u1 w2
    omega
theorem turns4 {u v w : Pt} (hu : fwd u) (hv : fwd v) (hw : fwd w) (h1 : 0 ≤ cx2 u v) (h2 : 0 ≤ cx2 v w) : 0 ≤ cx2 u w := by
  have I := crs3 u v w
  have w0 := fwd_nn hw
  have u0 := fwd_nn hu
  have a1 := Int.mul_nonneg w0 h1
  have a2 := Int.mul_nonneg u0 h2
  rcases hv with hv | ⟨hv, hv2⟩
  · exact nonneg_of_mul hv (by omega)
  · have e2 : cx2 v w = 0 - v.2 * w.1 := by unfold cx2; rw [hv, Int.zero_mul]
    have w1 : w.1 = 0 := by
      rcases int_or 0 w.1 with q | q
      · have := Int.mul_pos hv2 q
        omega
      · omega
    have w2 : 0 < w.2 := by unfold fwd at hw; omega
    unfold cx2
    rw [w1, Int.mul_zero]
    have := Int.mul_nonneg u0 (Int.le_of_lt w2)
    omega
def way (a b : Pt) : Pt := (b.1 - a.1, b.2 - a.2)
theorem lt_fwd {a b : Pt} (h : lt a b = true) : fwd (way a b) := by
  have := of_decide_eq_true h
  unfold fwd way
  dsimp only
  omega
theorem tn_crs (a b c : Pt) : tn a b c = cx2 (way a b) (way b c) := by unfold tn turnI cx2 way; grind
/-- a chain goes on -/
theorem ch1 {a b c p : Pt} (l1 : lt a b = true) (l2 : lt b c = true) (l3 : lt c p = true) (h1 : 0 < tn a b c) (h2 : 0 < tn b c p) : 0 < tn a b p := by
  rw [tn_crs] at h1 h2
  have := turns3 (lt_fwd l1) (lt_fwd l2) (lt_fwd l3) h1 (Int.le_of_lt h2)
  have e : tn a b p = cx2 (way a b) (way b c) + cx2 (way a b) (way c p) := by unfold tn turnI cx2 way; grind
  omega
/-- a point before the last corner -/
theorem ch2 {z b p q : Pt} (l1 : lt z b = true) (l2 : lt b p = true) (l3 : lt q b = true) (h1 : 0 ≤ tn z b q) (h2 : 0 < tn z b p) : 0 < tn b p q := by
  rw [tn_crs] at h2
  have e1 : tn z b q = cx2 (way q b) (way z b) := by unfold tn turnI cx2 way; grind
  have e2 : tn b p q = cx2 (way q b) (way b p) := by unfold tn turnI cx2 way; grind
  rw [e1] at h1
  rw [e2]
  exact turns2 (lt_fwd l3) (lt_fwd l1) (lt_fwd l2) h1 h2
/-- a corner is dropped: points behind it -/
theorem ch3 {b c p q : Pt} (h1 : tn b c p ≤ 0) (h2 : 0 ≤ tn c p q) (h3 : 0 ≤ tn b c q) : 0 ≤ tn b p q := by
  have e : tn b p q = tn c p q + tn b c q - tn b c p := by unfold tn turnI; grind
  omega
/-- a corner is dropped: points before it -/
theorem ch4 {b c p q : Pt} (l1 : lt b c = true) (l2 : lt c p = true) (l3 : lt b q = true) (h1 : tn b c p ≤ 0) (h2 : 0 ≤ tn b c q) : 0 ≤ tn b p q := by
  have e1 : tn b c p = 0 - cx2 (way c p) (way b c) := by unfold tn turnI cx2 way; grind
  have e2 : tn b c q = cx2 (way b c) (way b q) := by unfold tn turnI cx2 way; grind
  have e3 : tn b p q = cx2 (way b c) (way b q) + cx2 (way c p) (way b q) := by unfold tn turnI cx2 way; grind
  rw [e2] at h2
  have := turns4 (lt_fwd l2) (lt_fwd l1) (lt_fwd l3) (by omega) h2
  omega
/-- a point behind an edge of a chain -/
theorem ch5 {a b c q : Pt} (l1 : lt a b = true) (l2 : lt b c = true) (l3 : lt b q = true) (h1 : 0 < tn a b c) (h2 : 0 ≤ tn b c q) : 0 < tn a b q := by
  rw [tn_crs] at h1
  have e1 : tn b c q = cx2 (way b c) (way b q) := by unfold tn turnI cx2 way; grind
  have e2 : tn a b q = cx2 (way a b) (way b q) := by unfold tn turnI cx2 way; grind
  rw [e1] at h2
  rw [e2]
  exact turns3 (lt_fwd l1) (lt_fwd l2) (lt_fwd l3) h1 h2
/-! ### the chain, its last corner first -/
def popR (p : Pt) : List Pt → List Pt
  | c :: b :: r => if tn b c p ≤ 0 then popR p (b :: r) else c :: b :: r
  | l => l
/-- a chain of which the points S are left or on -/
def Conv (S : List Pt) : List Pt → Prop
  | c :: b :: r => lt b c = true ∧ (∀ q ∈ S, 0 ≤ tn b c q) ∧ (∀ a, r.head? = some a → 0 < tn a b c) ∧ Conv S (b :: r)
  | [c] => ∀ q ∈ S, lt q c = false
  | [] => True
theorem popR_ok {S : List Pt} {p : Pt} (hp : ∀ q ∈ S, lt q p = true) : ∀ (r : List Pt) (c : Pt), c ∈ S → (∀ x ∈ r, x ∈ S) → Conv S (c :: r) → (∀ q ∈ S, lt c q = true → 0 ≤ tn c p q) →
    ∃ c' r', popR p (c :: r) = c' :: r' ∧ (c' :: r') <:+ (c :: r) ∧ Conv S (c' :: r') ∧ (∀ q ∈ S, lt c' q = true → 0 ≤ tn c' p q) ∧ (∀ a, r'.head? = some a → 0 < tn a c' p)
  | [], c, hc, hr, hC, hq => ⟨c, [], rfl, List.suffix_refl _, hC, hq, fun a h => by cases h⟩
  | b :: r, c, hc, hr, hC, hq => by
    obtain ⟨l1, l2, l3, l4⟩ := hC
    by_cases q : tn b c p ≤ 0
    · have hb := hr b (by simp)
      obtain ⟨c', r', e, s, g1, g2, g3⟩ := popR_ok hp r b hb (fun x hx => hr x (by simp [hx])) l4 fun x hx lx => by
        by_cases e : lt c x = true
        · exact ch3 q (hq x hx e) (l2 x hx)
        · by_cases e2 : lt x c = true
          · exact ch4 l1 (hp c hc) lx q (l2 x hx)
          · have ex : c = x := lt_tri (by simpa using e2) (by simpa using e) |>.symm ▸ rfl
            subst ex
            have : tn b p c = 0 - tn b c p := by unfold tn turnI; grind
            omega
      refine ⟨c', r', ?_, s.trans (List.suffix_cons _ _), g1, g2, g3⟩
      show (if tn b c p ≤ 0 then popR p (b :: r) else c :: b :: r) = _
      rw [if_pos q]
      exact e
    · refine ⟨c, b :: r, ?_, List.suffix_refl _, ⟨l1, l2, l3, l4⟩, hq, fun a h => ?_⟩
      · show (if tn b c p ≤ 0 then popR p (b :: r) else c :: b :: r) = _
        rw [if_neg q]
      · cases h
        omega
/-- a further point behind the chain -/
theorem Conv.more {S : List Pt} {p : Pt} : ∀ (r : List Pt) (c : Pt), Conv S (c :: r) → lt c p = true → (∀ a, r.head? = some a → 0 < tn a c p) → Conv (p :: S) (c :: r)
  | [], c, h, l, t => fun q hq => by
    rcases List.mem_cons.mp hq with rfl | hq
    · exact lt_le l
    · exact h q hq
  | b :: r, c, h, l, t => by
    obtain ⟨l1, l2, l3, l4⟩ := h
    have t1 := t b rfl
    refine ⟨l1, fun q hq => ?_, l3, Conv.more r b l4 ?_ fun a ha => ?_⟩
    · rcases List.mem_cons.mp hq with rfl | hq
      · omega
      · exact l2 q hq
    · exact lt_trans l1 l
    · have la : lt a b = true := by
        cases r with
        | nil => cases ha
        | cons x r => cases ha; exact l4.1
      exact ch1 la l1 l (l3 a ha) t1
theorem Conv.push {S : List Pt} {p : Pt} {st : List Pt} (hp : ∀ q ∈ S, lt q p = true) (sub : ∀ x ∈ st, x ∈ S) (top : ∀ c, st.head? = some c → ∀ q ∈ S, lt c q = false) (h : Conv S st) (ne : S ≠ [] → st ≠ []) : Conv (p :: S) (p :: popR p st) := by
  cases st with
  | nil =>
    have e : S = [] := by
      cases S with
      | nil => rfl
      | cons x S => exact absurd rfl (ne (by simp))
    subst e
    intro q hq
    rw [List.mem_singleton] at hq
    subst hq
    exact lt_irr _
  | cons c r =>
    obtain ⟨c', r', e, s, g1, g2, g3⟩ := popR_ok hp r c (sub c (by simp)) (fun x hx => sub x (by simp [hx])) h fun q hq l => by
      rw [top c rfl q hq] at l
      cases l
    rw [e]
    have lc := hp c' (sub c' (s.subset (by simp)))
    refine ⟨lc, fun q hq => ?_, g3, g1.more r' c' lc g3⟩
    rcases List.mem_cons.mp hq with rfl | hq
    · have : tn c' q q = 0 := by unfold tn turnI; grind
      omega
    · by_cases e1 : lt c' q = true
      · exact g2 q hq e1
      · by_cases e2 : lt q c' = true
        · cases r' with
          | nil =>
            rw [g1 q hq] at e2
            cases e2
          | cons a r' =>
            exact Int.le_of_lt (ch2 g1.1 lc e2 (g1.2.1 q hq) (g3 a rfl))
        · have ex : q = c' := lt_tri (by simpa using e2) (by simpa using e1)
          subst ex
          have : tn q p q = 0 := by unfold tn turnI; grind
          omega
/-- each edge: all points left or on; those on it between its ends -/
def EdgeOk (S : List Pt) (b c : Pt) : Prop := ∀ q ∈ S, 0 ≤ tn b c q ∧ (tn b c q = 0 → lt q b = false ∧ lt c q = false)
theorem Conv.edge {S : List Pt} : ∀ (u : List Pt) (b c : Pt) (v : List Pt), Conv S (u ++ c :: b :: v) → (∀ e, (u ++ c :: b :: v).head? = some e → ∀ q ∈ S, lt e q = false) → EdgeOk S b c ∧ lt b c = true ∧ (∀ d, u.getLast? = some d → lt c d = true ∧ 0 < tn b c d ∧ ∀ q ∈ S, 0 ≤ tn c d q)
  | [], b, c, v, h, top => by
    obtain ⟨l1, l2, l3, l4⟩ := h
    refine ⟨fun q hq => ⟨l2 q hq, fun z => ⟨?_, top c rfl q hq⟩⟩, l1, fun d hd => by cases hd⟩
    cases v with
    | nil => exact l4 q hq
    | cons a v =>
      refine Bool.eq_false_iff.mpr fun w => ?_
      have := ch2 l4.1 l1 w (l4.2.1 q hq) (l3 a rfl)
      omega
  | [d], b, c, v, h, top => by
    obtain ⟨m1, m2, m3, l1, l2, l3, l4⟩ := h
    have t := m3 b rfl
    refine ⟨fun q hq => ⟨l2 q hq, fun z => ⟨?_, ?_⟩⟩, l1, fun e he => by cases he; exact ⟨m1, t, m2⟩⟩
    · cases v with
      | nil => exact l4 q hq
      | cons a v =>
        refine Bool.eq_false_iff.mpr fun w => ?_
        have := ch2 l4.1 l1 w (l4.2.1 q hq) (l3 a rfl)
        omega
    · refine Bool.eq_false_iff.mpr fun w => ?_
      have := ch5 l1 m1 w t (m2 q hq)
      omega
  | x :: d :: u, b, c, v, h, top => by
    -- the head is not needed any more: the edge below has one above it
    have go : ∀ (u : List Pt) (d b c : Pt) (v : List Pt), Conv S (d :: u ++ c :: b :: v) → EdgeOk S b c ∧ lt b c = true ∧ ∀ e, (d :: u).getLast? = some e → lt c e = true ∧ 0 < tn b c e ∧ ∀ q ∈ S, 0 ≤ tn c e q := by
      intro u
      induction u with
      | nil =>
        intro d b c v h
        obtain ⟨m1, m2, m3, l1, l2, l3, l4⟩ := h
        have t := m3 b rfl
        refine ⟨fun q hq => ⟨l2 q hq, fun z => ⟨?_, ?_⟩⟩, l1, fun e he => by cases he; exact ⟨m1, t, m2⟩⟩
        · cases v with
          | nil => exact l4 q hq
          | cons a v =>
            refine Bool.eq_false_iff.mpr fun w => ?_
            have := ch2 l4.1 l1 w (l4.2.1 q hq) (l3 a rfl)
            omega
        · refine Bool.eq_false_iff.mpr fun w => ?_
          have := ch5 l1 m1 w t (m2 q hq)
          omega
      | cons y u ih =>
        intro d b c v h
        obtain ⟨g1, g2, g3⟩ := ih y b c v h.2.2.2
        refine ⟨g1, g2, fun e he => g3 e ?_⟩
        rw [List.getLast?_cons_cons] at he
        exact he
    obtain ⟨g1, g2, g3⟩ := go u d b c v h.2.2.2
    refine ⟨g1, g2, fun e he => g3 e ?_⟩
    rw [List.getLast?_cons_cons] at he
    exact he
theorem popR_suffix (p : Pt) : ∀ st, popR p st <:+ st
  | [] => List.suffix_refl _
  | [c] => List.suffix_refl _
  | c :: b :: r => by
    show (if tn b c p ≤ 0 then popR p (b :: r) else c :: b :: r) <:+ _
    split
    · exact (popR_suffix p (b :: r)).trans (List.suffix_cons _ _)
    · exact List.suffix_refl _
theorem popR_ne (p : Pt) : ∀ r c, popR p (c :: r) ≠ []
  | [], c => by simp [popR]
  | b :: r, c => by
    show (if tn b c p ≤ 0 then popR p (b :: r) else c :: b :: r) ≠ []
    split
    · exact popR_ne p r b
    · simp
/-- the chain of the points R, the last of them first -/
def chainS : List Pt → List Pt
  | [] => []
  | p :: R => p :: popR p (chainS R)
theorem suffix_last {l m : List Pt} (h : l <:+ m) (ne : l ≠ []) : l.getLast? = m.getLast? := by
  obtain ⟨t, rfl⟩ := h
  rw [List.getLast?_append]
  cases e : l.getLast? with
  | none => exact absurd (List.getLast?_eq_none_iff.mp e) ne
  | some x => rfl
structure ChainOk (R st : List Pt) : Prop where
  conv : Conv R st
  sub : ∀ x ∈ st, x ∈ R
  head : st.head? = R.head?
  last : st.getLast? = R.getLast?
  desc : st.Pairwise fun a b => lt b a = true
theorem head_top {R : List Pt} (h : R.Pairwise fun a b => lt b a = true) : ∀ c, R.head? = some c → ∀ q ∈ R, lt c q = false := fun c hc q hq => by
  cases R with
  | nil => cases hc
  | cons x R =>
    cases hc
    rcases List.mem_cons.mp hq with rfl | hq
    · exact lt_irr _
    · exact lt_le ((List.pairwise_cons.mp h).1 q hq)
theorem chainS_ok : ∀ R : List Pt, (R.Pairwise fun a b => lt b a = true) → ChainOk R (chainS R)
  | [], _ => ⟨True.intro, fun x h => h, rfl, rfl, .nil⟩
  | p :: R, h => by
    obtain ⟨h1, h2⟩ := List.pairwise_cons.mp h
    have C := chainS_ok R h2
    have ne : R ≠ [] → chainS R ≠ [] := fun n z => by
      cases R with
      | nil => exact n rfl
      | cons x R => cases z
    have sub : ∀ x ∈ popR p (chainS R), x ∈ R := fun x hx => C.sub x ((popR_suffix p _).subset hx)
    refine ⟨C.conv.push h1 C.sub (fun c hc => head_top h2 c (by rw [← C.head]; exact hc)) ne, fun x hx => ?_, rfl, ?_, ?_⟩
    · rcases List.mem_cons.mp hx with rfl | hx
      · simp
      · exact List.mem_cons_of_mem _ (sub x hx)
    · show (p :: popR p (chainS R)).getLast? = _
      cases R with
      | nil => rfl
      | cons x R =>
        have n1 : popR p (chainS (x :: R)) ≠ [] := popR_ne _ _ _
        obtain ⟨y, r, e⟩ : ∃ y r, popR p (chainS (x :: R)) = y :: r := by
          cases q : popR p (chainS (x :: R)) with
          | nil => exact absurd q n1
          | cons y r => exact ⟨y, r, rfl⟩
        rw [e, List.getLast?_cons_cons, List.getLast?_cons_cons, ← e, suffix_last (popR_suffix _ _) n1, C.last]
    · exact List.pairwise_cons.mpr ⟨fun x hx => h1 x (sub x hx), C.desc.sublist (popR_suffix p _).sublist⟩
/-! ### the other way -/
def neg (p : Pt) : Pt := (-p.1, -p.2)
theorem tn_neg (a b c : Pt) : tn (neg a) (neg b) (neg c) = tn a b c := by unfold tn turnI neg; grind
theorem lt_neg (a b : Pt) : lt (neg a) (neg b) = lt b a := decide_eq_decide.mpr (by unfold neg; dsimp only; omega)
theorem popR_neg (p : Pt) : ∀ st, popR (neg p) (st.map neg) = (popR p st).map neg
  | [] => rfl
  | [c] => rfl
  | c :: b :: r => by
    show (if tn (neg b) (neg c) (neg p) ≤ 0 then popR (neg p) ((b :: r).map neg) else (c :: b :: r).map neg) = List.map neg (if tn b c p ≤ 0 then popR p (b :: r) else c :: b :: r)
    rw [tn_neg, popR_neg p (b :: r)]
    split <;> rfl
theorem chainS_neg : ∀ R, chainS (R.map neg) = (chainS R).map neg
  | [] => rfl
  | p :: R => by
    show neg p :: popR (neg p) (chainS (R.map neg)) = neg p :: (popR p (chainS R)).map neg
    rw [chainS_neg R, popR_neg]
end My
namespace My
open PySem L2
/-! ## the hull: the way around, corner by corner -/
def d1 (a q : Pt) : Nat := (q.1 - a.1).natAbs + (q.2 - a.2).natAbs
theorem dist_le {b c q : Pt} (l : lt b c = true) (z : tn b c q = 0) (h1 : lt q b = false) (h2 : lt c q = false) : d1 b q ≤ d1 b c ∧ (d1 b q = d1 b c → q = c) := by
  have l := of_decide_eq_true l
  have h1 := of_decide_eq_false h1
  have h2 := of_decide_eq_false h2
  have e : (c.1 - b.1) * (q.2 - b.2) = (c.2 - b.2) * (q.1 - b.1) := by unfold tn turnI at z; omega
  obtain ⟨bx, dy⟩ := b
  obtain ⟨cx, cy⟩ := c
  obtain ⟨qx, qy⟩ := q
  unfold d1
  dsimp only at *
  rcases int_or bx cx with p | p
  · have n := congrArg Int.natAbs e
    rw [Int.natAbs_mul, Int.natAbs_mul] at n
    have m : (qx - bx).natAbs ≤ (cx - bx).natAbs := by omega
    have p0 : 0 < (cx - bx).natAbs := by omega
    have s1 : (cx - bx).natAbs * (qy - dy).natAbs ≤ (cx - bx).natAbs * (cy - dy).natAbs := by
      rw [n, Nat.mul_comm (cx - bx).natAbs]
      exact Nat.mul_le_mul_left _ m
    have s2 := Nat.le_of_mul_le_mul_left s1 p0
    refine ⟨by omega, fun g => ?_⟩
    have ex : qx = cx := by omega
    subst ex
    rw [Int.mul_comm] at e
    have := Int.eq_of_mul_eq_mul_right (show qx - bx ≠ 0 by omega) e
    rw [show qy = cy by omega]
  · have ex : qx = bx := by omega
    have ec : cx = bx := by omega
    subst ex ec
    refine ⟨by omega, fun g => ?_⟩
    rw [show qy = cy by omega]
/-- the next corner -/
structure Nx (S : List Pt) (a t : Pt) : Prop where
  mem : t ∈ S
  ne : t ≠ a
  all : ∀ q ∈ S, 0 ≤ tn a t q ∧ (tn a t q = 0 → d1 a q ≤ d1 a t ∧ (d1 a q = d1 a t → q = t))
/-- the hull of S, begun at its least point -/
structure Wrap (S h : List Pt) : Prop where
  sub : ∀ x ∈ h, x ∈ S
  few : h.length ≤ S.length
  least : ∃ r L, h = L :: r ∧ (∀ q ∈ S, lt q L = false) ∧ L ∉ r
  one : h.length = 1 → ∀ q ∈ S, [q] = h
  next : 2 ≤ h.length → ∀ j a t, h[j]? = some a → (h ++ h.take 1)[j + 1]? = some t → Nx S a t
theorem Wrap.self {S h : List Pt} (W : Wrap S h) : Wrap h h := by
  obtain ⟨r, L, e, h1, h2⟩ := W.least
  refine ⟨fun x hx => hx, Nat.le_refl _, ⟨r, L, e, fun q hq => h1 q (W.sub q hq), h2⟩, fun o q hq => W.one o q (W.sub q hq), fun o j a t ha ht => ?_⟩
  have n := W.next o j a t ha ht
  refine ⟨?_, n.ne, fun q hq => n.all q (W.sub q hq)⟩
  rcases List.mem_append.mp (List.mem_of_getElem? ht) with g | g
  · exact g
  · exact List.mem_of_mem_take g
/-! ### the two chains make it -/
theorem nodup_len : ∀ {l m : List Pt}, l.Nodup → (∀ x ∈ l, x ∈ m) → l.length ≤ m.length
  | [], _, _, _ => Nat.zero_le _
  | x :: l, m, h, s => by
    obtain ⟨h1, h2⟩ := List.nodup_cons.mp h
    obtain ⟨u, t, rfl⟩ := List.append_of_mem (s x (by simp))
    have := nodup_len (m := u ++ t) h2 fun y hy => by
      have := s y (by simp [hy])
      rw [List.mem_append, List.mem_cons] at this
      rw [List.mem_append]
      rcases this with a | rfl | a
      · exact .inl a
      · exact absurd hy h1
      · exact .inr a
    rw [List.length_append] at this ⊢
    rw [List.length_cons, List.length_cons]
    omega
theorem asc_nodup {l : List Pt} (h : l.Pairwise fun a b => lt b a = true) : l.Nodup := by
  rw [List.nodup_iff_pairwise_ne]
  exact h.imp fun {a b} l e => by rw [e, lt_irr] at l; cases l
theorem nodup_rev {l : List Pt} (h : l.Nodup) : l.reverse.Nodup := (List.reverse_perm l).nodup_iff.mpr h
theorem in_init {x : Pt} {l : List Pt} (h : x ∈ l.dropLast) : ∃ u y v, l = u ++ x :: y :: v := by
  have ne : l ≠ [] := fun e => by rw [e] at h; cases h
  obtain ⟨s, t, e⟩ := List.append_of_mem h
  have e2 := List.dropLast_concat_getLast ne
  rw [e, List.append_assoc, List.cons_append] at e2
  cases q : t ++ [l.getLast ne] with
  | nil => simp at q
  | cons y v => exact ⟨s, y, v, by rw [← e2, q]⟩
theorem no_both {b1 x y a1 : Pt} (l1 : lt b1 x = true) (l2 : lt x y = true) (l3 : lt x a1 = true) (h1 : 0 < tn b1 x y) (h2 : 0 ≤ tn a1 x b1) (h3 : 0 ≤ tn x y a1) : False := by
  rw [tn_crs] at h1
  have e2 : tn a1 x b1 = cx2 (way x a1) (way b1 x) := by unfold tn turnI cx2 way; grind
  have e3 : tn x y a1 = 0 - cx2 (way x a1) (way x y) := by unfold tn turnI cx2 way; grind
  rw [e2] at h2
  have := turns2 (lt_fwd l3) (lt_fwd l1) (lt_fwd l2) h2 h1
  omega
theorem adj_split {x y R : Pt} {D A' u v : List Pt} (h : D ++ R :: A' = u ++ x :: y :: v) : (∃ v', D ++ [R] = u ++ x :: y :: v') ∨ ∃ u', R :: A' = u' ++ x :: y :: v := by
  rcases List.append_eq_append_iff.mp h with ⟨a, rfl, e⟩ | ⟨c, rfl, e⟩
  · cases a with
    | nil => exact .inr ⟨[], e⟩
    | cons z a => exact .inr ⟨z :: a, e⟩
  · cases c with
    | nil => exact .inr ⟨[], e.symm⟩
    | cons z c =>
      injection e with e1 e2
      subst e1
      cases c with
      | nil =>
        injection e2 with e3 e4
        subst e3
        exact .inl ⟨[], by simp⟩
      | cons w c =>
        injection e2 with e3 e4
        subst e3
        exact .inl ⟨c ++ [R], by simp⟩
theorem neg_neg_ (p : Pt) : neg (neg p) = p := by
  obtain ⟨x, y⟩ := p
  show (- -x, - -y) = (x, y)
  rw [Int.neg_neg, Int.neg_neg]
theorem neg_inj {p q : Pt} (h : neg p = neg q) : p = q := by rw [← neg_neg_ p, h, neg_neg_]
theorem mem_neg {p : Pt} {l : List Pt} : neg p ∈ l.map neg ↔ p ∈ l := ⟨fun h => by
  obtain ⟨q, hq, e⟩ := List.mem_map.mp h
  rw [← neg_inj e]
  exact hq, fun h => List.mem_map.mpr ⟨p, h, rfl⟩⟩
theorem d1_neg (a q : Pt) : d1 (neg a) (neg q) = d1 a q := by unfold d1 neg; dsimp only; omega
theorem split_at {l : List Pt} {j : Nat} {a t : Pt} (h : l[j]? = some a) (g : l[j + 1]? = some t) : ∃ u v, l = u ++ a :: t :: v := by
  obtain ⟨hi, e1⟩ := List.getElem?_eq_some_iff.mp h
  obtain ⟨hj, e2⟩ := List.getElem?_eq_some_iff.mp g
  refine ⟨l.take j, l.drop (j + 2), ?_⟩
  have h1 := List.drop_eq_getElem_cons hi
  have h2 := List.drop_eq_getElem_cons hj
  rw [e1] at h1
  rw [e2] at h2
  rw [← h2, ← h1, List.take_append_drop]
section
variable {pl : List Pt}
theorem lower (asc : pl.Pairwise fun a b => lt a b = true) {u v : List Pt} {a t : Pt} (e : (chainS pl.reverse).reverse = u ++ a :: t :: v) : EdgeOk pl a t ∧ lt a t = true ∧ ∀ d, v.head? = some d → lt t d = true ∧ 0 < tn a t d ∧ ∀ q ∈ pl, 0 ≤ tn t d q := by
  have dsc : pl.reverse.Pairwise fun a b => lt b a = true := List.pairwise_reverse.mpr asc
  have C := chainS_ok pl.reverse dsc
  have es : chainS pl.reverse = v.reverse ++ t :: a :: u.reverse := by rw [← List.reverse_reverse (chainS pl.reverse), e]; simp
  have cv := C.conv
  have hd := C.head
  rw [es] at cv hd
  obtain ⟨g1, g2, g3⟩ := cv.edge v.reverse a t u.reverse (fun c hc => head_top dsc c (by rw [← hd]; exact hc))
  refine ⟨fun q hq => g1 q (List.mem_reverse.mpr hq), g2, fun d hd => ?_⟩
  obtain ⟨k1, k2, k3⟩ := g3 d (by rw [List.getLast?_reverse]; exact hd)
  exact ⟨k1, k2, fun q hq => k3 q (List.mem_reverse.mpr hq)⟩
theorem neg_asc (asc : pl.Pairwise fun a b => lt a b = true) : (pl.map neg).Pairwise fun a b => lt b a = true := List.pairwise_map.mpr (asc.imp fun {a b} h => by rw [lt_neg]; exact h)
theorem upper (asc : pl.Pairwise fun a b => lt a b = true) {u v : List Pt} {a t : Pt} (e : (chainS pl).reverse = u ++ a :: t :: v) : EdgeOk (pl.map neg) (neg a) (neg t) ∧ lt t a = true := by
  have C := chainS_ok (pl.map neg) (neg_asc asc)
  have es : chainS (pl.map neg) = (v.reverse.map neg) ++ neg t :: neg a :: u.reverse.map neg := by rw [chainS_neg, ← List.reverse_reverse (chainS pl), e]; simp
  have cv := C.conv
  have hd := C.head
  rw [es] at cv hd
  obtain ⟨g1, g2, _⟩ := cv.edge _ (neg a) (neg t) _ (fun c hc => head_top (neg_asc asc) c (by rw [← hd]; exact hc))
  rw [lt_neg] at g2
  exact ⟨g1, g2⟩
theorem wrap_of (asc : pl.Pairwise fun a b => lt a b = true) (two : 2 ≤ pl.length) : Wrap pl ((chainS pl.reverse).reverse.dropLast ++ (chainS pl).reverse.dropLast) := by
  have C1 := chainS_ok pl.reverse (List.pairwise_reverse.mpr asc)
  have C2 := chainS_ok (pl.map neg) (neg_asc asc)
  rw [chainS_neg] at C2
  obtain ⟨L, hL⟩ : ∃ L, pl.head? = some L := by
    cases pl with
    | nil => simp at two
    | cons x r => exact ⟨x, rfl⟩
  obtain ⟨R, hR⟩ : ∃ R, pl.getLast? = some R := by
    cases e : pl.getLast? with
    | none => rw [List.getLast?_eq_none_iff.mp e] at two; simp at two
    | some R => exact ⟨R, rfl⟩
  have nLR : L ≠ R := fun e => by
    cases pl with
    | nil => cases hL
    | cons x r =>
      cases hL
      cases r with
      | nil => simp at two
      | cons y r =>
        rw [List.getLast?_cons_cons] at hR
        have := (List.pairwise_cons.mp asc).1 R (List.mem_of_getLast? hR)
        rw [e, lt_irr] at this
        cases this
  have hB : (chainS pl.reverse).reverse.head? = some L := by rw [List.head?_reverse, C1.last, List.getLast?_reverse, hL]
  have lB : (chainS pl.reverse).reverse.getLast? = some R := by rw [List.getLast?_reverse, C1.head, List.head?_reverse, hR]
  have lA : (chainS pl).reverse.getLast? = some L := by
    rw [List.getLast?_reverse]
    cases pl with
    | nil => cases hL
    | cons x r => exact hL
  have hA : (chainS pl).reverse.head? = some R := by
    rw [List.head?_reverse]
    have := C2.last
    rw [List.getLast?_map, List.getLast?_map, hR] at this
    cases e : (chainS pl).getLast? with
    | none => rw [e] at this; cases this
    | some x =>
      rw [e] at this
      injection this with this
      rw [neg_inj this]
  have subB : ∀ x ∈ (chainS pl.reverse).reverse, x ∈ pl := fun x hx => List.mem_reverse.mp (C1.sub x (List.mem_reverse.mp hx))
  have subA : ∀ x ∈ (chainS pl).reverse, x ∈ pl := fun x hx => mem_neg.mp (C2.sub _ (mem_neg.mpr (List.mem_reverse.mp hx)))
  have nB : (chainS pl.reverse).reverse.Nodup := nodup_rev (asc_nodup C1.desc)
  have nA : (chainS pl).reverse.Nodup := by
    refine nodup_rev ?_
    have := asc_nodup C2.desc
    rw [List.nodup_iff_pairwise_ne, List.pairwise_map] at this
    rw [List.nodup_iff_pairwise_ne]
    exact this.imp fun {a b} n e => n (by rw [e])
  have lowE := fun u v a t e => lower asc (u := u) (v := v) (a := a) (t := t) e
  have uppE := fun u v a t e => upper asc (u := u) (v := v) (a := a) (t := t) e
  generalize (chainS pl.reverse).reverse = B at *
  generalize (chainS pl).reverse = A at *
  clear C1 C2
  have eB : B = B.dropLast ++ [R] := by
    have ne : B ≠ [] := fun e => by rw [e] at hB; cases hB
    rw [List.getLast?_eq_some_getLast ne] at lB
    injection lB with lB
    conv => lhs; rw [← List.dropLast_concat_getLast ne, lB]
  have eA : A = A.dropLast ++ [L] := by
    have ne : A ≠ [] := fun e => by rw [e] at hA; cases hA
    rw [List.getLast?_eq_some_getLast ne] at lA
    injection lA with lA
    conv => lhs; rw [← List.dropLast_concat_getLast ne, lA]
  obtain ⟨A', hA'⟩ : ∃ A', A = R :: A' := by
    cases A with
    | nil => cases hA
    | cons x r => cases hA; exact ⟨r, rfl⟩
  obtain ⟨D', hD⟩ : ∃ D', B.dropLast = L :: D' := by
    cases q : B.dropLast with
    | nil =>
      rw [q] at eB
      rw [eB] at hB
      cases hB
      exact absurd rfl nLR
    | cons x r =>
      rw [q] at eB
      rw [eB] at hB
      cases hB
      exact ⟨r, rfl⟩
  have nA0 : 1 ≤ A.dropLast.length := by
    cases q : A.dropLast with
    | nil =>
      rw [q] at eA
      rw [eA] at hA
      cases hA
      exact absurd rfl nLR
    | cons x r => simp
  have subD : ∀ x ∈ B.dropLast, x ∈ B := fun x hx => (List.dropLast_sublist _).subset hx
  have subA0 : ∀ x ∈ A.dropLast, x ∈ A := fun x hx => (List.dropLast_sublist _).subset hx
  have nd : (B.dropLast ++ A.dropLast).Nodup := by
    refine List.nodup_append.mpr ⟨nB.sublist (List.dropLast_sublist _), nA.sublist (List.dropLast_sublist _), fun x hx y hy e => ?_⟩
    subst e
    have xL : x ≠ L := fun e => by
      rw [eA] at nA
      exact (List.nodup_append.mp nA).2.2 x hy L (by simp) e
    have xR : x ≠ R := fun e => by
      rw [eB] at nB
      exact (List.nodup_append.mp nB).2.2 x hx R (by simp) e
    obtain ⟨u, y, v, e1⟩ := in_init hx
    obtain ⟨u2, y2, v2, e2⟩ := in_init hy
    rcases List.eq_nil_or_concat u with rfl | ⟨u', b1, rfl⟩
    · rw [e1] at hB
      cases hB
      exact xL rfl
    rcases List.eq_nil_or_concat u2 with rfl | ⟨u2', a1, rfl⟩
    · rw [e2] at hA
      cases hA
      exact xR rfl
    rw [List.concat_eq_append, List.append_assoc] at e1 e2
    obtain ⟨k1, k2, k3⟩ := lowE u' (y :: v) b1 x e1
    obtain ⟨m1, m2, m3⟩ := k3 y rfl
    obtain ⟨n1, n2⟩ := uppE u2' (y2 :: v2) a1 x e2
    have mb : b1 ∈ pl := subB b1 (by rw [e1]; simp)
    have ma : a1 ∈ pl := subA a1 (by rw [e2]; simp)
    have o1 := (n1 (neg b1) (mem_neg.mpr mb)).1
    rw [tn_neg] at o1
    exact no_both k2 m1 n2 m2 o1 (m3 a1 ma)
  have sub : ∀ x ∈ B.dropLast ++ A.dropLast, x ∈ pl := fun x hx => (List.mem_append.mp hx).elim (fun h => subB x (subD x h)) fun h => subA x (subA0 x h)
  refine ⟨sub, nodup_len nd sub, ⟨D' ++ A.dropLast, L, by rw [hD]; rfl, fun q hq => ?_, ?_⟩, fun o => ?_, fun _ j a t ha ht => ?_⟩
  · cases pl with
    | nil => cases hL
    | cons x r =>
      cases hL
      rcases List.mem_cons.mp hq with rfl | hq
      · exact lt_irr _
      · exact lt_le ((List.pairwise_cons.mp asc).1 q hq)
  · rw [hD] at nd
    exact (List.nodup_cons.mp nd).1
  · rw [List.length_append, hD, List.length_cons] at o
    omega
  · have eP : (B.dropLast ++ A.dropLast) ++ (B.dropLast ++ A.dropLast).take 1 = B.dropLast ++ R :: A' := by
      rw [← hA']
      conv => rhs; rw [eA]
      rw [List.append_assoc]
      rw [hD]
      rfl
    have hj := (List.getElem?_eq_some_iff.mp ha).1
    obtain ⟨u, v, e⟩ := split_at (l := (B.dropLast ++ A.dropLast) ++ (B.dropLast ++ A.dropLast).take 1) (by rw [List.getElem?_append_left hj]; exact ha) ht
    rw [eP] at e
    rcases adj_split e with ⟨v', e1⟩ | ⟨u', e1⟩
    · rw [← eB] at e1
      obtain ⟨k1, k2, _⟩ := lowE u v' a t e1
      refine ⟨subB t (by rw [e1]; simp), (fun z => by rw [z, lt_irr] at k2; exact Bool.noConfusion k2), fun q hq => ⟨(k1 q hq).1, fun z => ?_⟩⟩
      obtain ⟨z1, z2⟩ := (k1 q hq).2 z
      exact dist_le k2 z z1 z2
    · rw [← hA'] at e1
      obtain ⟨k1, k2⟩ := uppE u' v a t e1
      refine ⟨subA t (by rw [e1]; simp), (fun z => by rw [z, lt_irr] at k2; exact Bool.noConfusion k2), fun q hq => ?_⟩
      have k := k1 (neg q) (mem_neg.mpr hq)
      rw [tn_neg] at k
      refine ⟨k.1, fun z => ?_⟩
      obtain ⟨z1, z2⟩ := k.2 z
      have := dist_le (b := neg a) (c := neg t) (q := neg q) (by rw [lt_neg]; exact k2) (by rw [tn_neg]; exact z) z1 z2
      rw [d1_neg, d1_neg] at this
      exact ⟨this.1, fun g => neg_inj (this.2 g)⟩
end
/-- of points that come more than once, too -/
theorem Wrap.of {pl S h : List Pt} (W : Wrap pl h) (nd : pl.Nodup) (e : ∀ x, x ∈ pl ↔ x ∈ S) : Wrap S h := by
  obtain ⟨r, L, eh, h1, h2⟩ := W.least
  refine ⟨fun x hx => (e x).mp (W.sub x hx), Nat.le_trans W.few (nodup_len nd fun x hx => (e x).mp hx), ⟨r, L, eh, fun q hq => h1 q ((e q).mpr hq), h2⟩, fun o q hq => W.one o q ((e q).mpr hq), fun o j a t ha ht => ?_⟩
  have n := W.next o j a t ha ht
  exact ⟨(e t).mp n.mem, n.ne, fun q hq => n.all q ((e q).mpr hq)⟩
theorem wrap_one (L : Pt) : Wrap [L] [L] := ⟨fun x h => h, Nat.le_refl _, ⟨[], L, rfl, fun q hq => by rw [List.mem_singleton] at hq; subst hq; exact lt_irr _, by simp⟩, fun _ q hq => by rw [List.mem_singleton] at hq; rw [hq], fun o => by simp at o⟩
theorem sorted_nodup {pl : List Pt} (h : pl.Pairwise fun a b => lt a b = true) : pl.Nodup := by
  rw [List.nodup_iff_pairwise_ne]
  exact h.imp fun {a b} l e => by rw [e, lt_irr] at l; cases l
end My
namespace My
open PySem L2
/-! ## a list read from its end -/
theorem refs_back (c : Zp) (r : List Zp) : refs (c :: r).reverse = refs r.reverse ++ [.ref c.1] := by rw [List.reverse_cons, refs_app]; rfl
theorem at_back1 (c : Zp) (r : List Zp) : atI (refs (c :: r).reverse) (-1) = some (.ref c.1) := by
  rw [refs_back]
  unfold atI ixN
  have ln : (refs r.reverse ++ [V.ref c.1]).length = r.length + 1 := by rw [List.length_append, refs_len, List.length_reverse]; rfl
  rw [if_neg (by decide), if_pos (by rw [ln]; omega)]
  simp only [Option.bind_some]
  rw [ln, show (-1 + ((r.length + 1 : Nat) : Int)).toNat = r.length by omega, List.getElem?_append_right (by rw [refs_len, List.length_reverse]; omega), refs_len, List.length_reverse, Nat.sub_self]
  rfl
theorem at_back2 (c b : Zp) (r : List Zp) : atI (refs (c :: b :: r).reverse) (-2) = some (.ref b.1) := by
  rw [refs_back, refs_back]
  unfold atI ixN
  have ln : (refs r.reverse ++ [V.ref b.1] ++ [V.ref c.1]).length = r.length + 2 := by rw [List.length_append, List.length_append, refs_len, List.length_reverse]; rfl
  rw [if_neg (by decide), if_pos (by rw [ln]; omega)]
  simp only [Option.bind_some]
  rw [ln, show (-2 + ((r.length + 2 : Nat) : Int)).toNat = r.length by omega, List.append_assoc, List.getElem?_append_right (by rw [refs_len, List.length_reverse]; omega), refs_len, List.length_reverse, Nat.sub_self]
  rfl
theorem last_back (c : Zp) (r : List Zp) : (refs (c :: r).reverse)[(refs (c :: r).reverse).length - 1]? = some (.ref c.1) := by
  rw [refs_back, List.length_append, List.length_singleton, Nat.add_sub_cancel, List.getElem?_append_right (Nat.le_refl _), Nat.sub_self]
  rfl
theorem drop_back (c : Zp) (r : List Zp) : (refs (c :: r).reverse).dropLast = refs r.reverse := by rw [refs_back, List.dropLast_concat]
theorem crd_rev (zs : List Zp) : crd zs.reverse = (crd zs).reverse := List.map_reverse
theorem crd_app (zs ws : List Zp) : crd (zs ++ ws) = crd zs ++ crd ws := List.map_append
theorem mem_crd {z : Zp} {zs : List Zp} (h : z ∈ zs) : z.2 ∈ crd zs := List.mem_map.mpr ⟨z, h, rfl⟩
theorem cut_m1 (xs : List V) : cutV xs none (some (-1)) = xs.dropLast := by
  unfold cutV
  rw [show HT.sIx xs.length 0 none = 0 from rfl, List.drop_zero, Nat.sub_zero, List.dropLast_eq_take]
  congr 1
  show (if (-1 : Int) < 0 then (-1 + (xs.length : Int)).toNat else min (-1 : Int).toNat xs.length) = _
  rw [if_pos (by decide)]
  omega
theorem refs_init (zs : List Zp) : (refs zs).dropLast = refs zs.dropLast := by
  rw [List.dropLast_eq_take, List.dropLast_eq_take, refs_take, refs_len]
theorem crd_init (zs : List Zp) : crd zs.dropLast = (crd zs).dropLast := by
  rw [List.dropLast_eq_take, List.dropLast_eq_take, List.length_map]
  exact List.map_take
theorem sorted_asc {cs : List Pn} (nd : (cs.map fun b => b.2).Nodup) : (crd (cs.mergeSort fun p q => decide (p.2.1 < q.2.1 ∨ (p.2.1 = q.2.1 ∧ p.2.2 ≤ q.2.2)))).Pairwise fun a b => lt a b = true := by
  have h1 := sortP_le cs
  have h2 : (crd (cs.mergeSort fun p q => decide (p.2.1 < q.2.1 ∨ (p.2.1 = q.2.1 ∧ p.2.2 ≤ q.2.2)))).Nodup := ((sortP_perm cs).map _).nodup_iff.mpr nd
  rw [List.nodup_iff_pairwise_ne, List.pairwise_map] at h2
  rw [List.pairwise_map]
  refine (h1.and h2).imp fun {a b} h => ?_
  obtain ⟨g1, g2⟩ := h
  cases e : lt a.2 b.2 with
  | true => rfl
  | false => exact absurd (lt_tri e g1) g2
theorem chainS_len : ∀ R : List Pt, (chainS R).length ≤ R.length
  | [] => Nat.le_refl _
  | p :: R => Nat.succ_le_succ (Nat.le_trans (popR_suffix p _).length_le (chainS_len R))
theorem chain_len {ws : List Zp} {R : List Pt} (h : crd ws = (chainS R).reverse) : ws.length ≤ R.length := by
  have := congrArg List.length h
  rw [List.length_map, List.length_reverse] at this
  have := chainS_len R
  omega
end My
namespace HT
open PySem PySem.Calls PyProof.Rows PySem.W L2
section
variable {prog : Program} {w : World} {A : Around} {E : Value → Shared → Prop} {s : Shared}
theorem back_two {pair cutter : Addr} {u v st : Value} {Q : Value → Shared → Prop} (isPair : IsTup s.heap pair #[u, v]) (isCut : s.heap.IsSliceOf cutter .none .none st) (minus : IsPart st (some (-1)))
    (h : Q (.ref s.heap.objs.size) { s with heap := s.heap.push { cls := .type "tuple", data := .seq #[v, u] } }) : wpAny (model prog w) A (getItem (.ref pair) (.ref cutter)) Q E s := by
  obtain ⟨oc, hoc, hcc, hdc⟩ := id isCut
  have isS : s.TypeIs (.ref cutter) "slice" := ⟨oc, hoc, hcc⟩
  unfold getItem
  try with_reducible refine wpAny_holding ?_
  first | refine wpAny_bind (wpAny_pure ?_) | skip
  refine wpAny_bind (wpAny_sequenceKey isPair.typeIs (by decide) (?_))
  refine wpAny_bind (wpAny_callSpecial?_slot (name := Str.ofString "__getitem__") isPair.typeIs PyProof.Rows.slot_tuple_getitem (wpAny_call_entry PyProof.Rows.slot_tuple_getitem isPair.typeIs entry_tuple_getitem ?_ (args_tuple_getitem _ _)))
  show wpAny _ _ (Builtin.Tuple.tupleItemsOf (.ref pair) >>= _) _ _ s
  refine wpAny_bind (tupleItemsOf_ isPair ?_)
  refine wpAny_bind (wpAny_typeOf isS (?_))
  rw [if_pos (by decide)]
  have parts : ∀ E' : Value → Shared → Prop, wpAny (model prog w) A.in1 (Builtin.Slice.sliceApplied (.ref cutter) (pure (((#[u, v] : Array Value).size : Nat) : Int))) (fun r s' => r = ((1 : Int), (-1 : Int), 2) ∧ s' = s) E' s := by
    intro E'
    unfold Builtin.Slice.sliceApplied Builtin.Slice.sliceFields
    refine wpAny_bind (wpAny_bind (wpAny_field hoc hdc (x := Value.none) rfl (wpAny_bind (wpAny_field hoc hdc (x := Value.none) rfl (wpAny_bind (wpAny_field hoc hdc (x := st) rfl (wpAny_pure ?_)))))))
    refine wpAny_bind (slicePart_ minus ?_)
    show wpAny _ _ (if ((-1 : Int) == 0) = true then _ else _) _ _ s
    rw [if_neg (by decide)]
    exact wpAny_bind (slicePart_none (wpAny_bind (slicePart_none (wpAny_bind (wpAny_pure (wpAny_pure ⟨by simp [Builtin.Slice.slicePlaces], rfl⟩))))))
  refine wpAny_bind (wpAny_mono (parts _) (fun r s' z => ?_) fun _ _ e => e)
  obtain ⟨rfl, rfl⟩ := z
  show wpAny _ _ (if ((1 : Int) == 0 && (-1 : Int) == 1 && 2 == 2) = true then _ else _) _ _ s'
  rw [if_neg (by decide)]
  first
    | exact wpAny_bind (m := Builtin.Tuple.tupleExact _) (wpAny_newObj_type (wpAny_pure ⟨_, rfl, wpAny_pure h⟩) (by show 2 ≤ sizeLine; decide))
    | exact wpAny_bind (m := Builtin.Tuple.tupleExact _) (wpAny_newObj_type (wpAny_bind (wpAny_pure (wpAny_pure ⟨_, rfl, wpAny_pure h⟩))) (by show 2 ≤ sizeLine; decide))
    | exact wpAny_bind (wpAny_bind (m := Builtin.Tuple.tupleExact _) (wpAny_newObj_type (wpAny_pure (wpAny_pure ⟨_, rfl, wpAny_pure h⟩)) (by show 2 ≤ sizeLine; decide)))
    | exact wpAny_bind (wpAny_bind (m := Builtin.Tuple.tupleExact _) (wpAny_newObj_type (wpAny_pure ⟨_, rfl, wpAny_pure h⟩) (by show 2 ≤ sizeLine; decide)))
end
end HT
namespace My
open PySem PySem.Spec PyProof.Rows L2
section
variable {X : Cx}
def tRev2 (K : PySem.W.Frag) (te : TE) : TE := fun σ H Q => te σ H fun x H1 => ∃ a u v, x = .ref a ∧ SqT K H1 a [u, v] ∧ ∀ p, H1 p = none → Q (.ref p) (upd H1 p (.tup [v, u]))
theorem pe_rev2 {e : Expr} {te : TE} {k : Nat} {p1 p2 p3 pos : Pos} (inner : PE X e te) : PE X (.Subscript e (.Slice none none (some (.UnaryOp .USub (.Constant (.int 1) k p1) p2)) p3) pos) (tRev2 X.K te) := by
  refine ⟨fun pins s σ H Q I goal => ?_⟩
  refine Subscript_ (thn (inner.run pins s σ H _ I goal) fun v s1 ⟨x, H1, I1, r1, q1⟩ => ?_)
  obtain ⟨a, y, z, rfl, two, rest⟩ := q1
  cases r1
  have third : PO X (some (.UnaryOp .USub (.Constant (.int 1) k p1) p2)) (tPart (tUn (rU fun i => .int (-i)) (tC (.int 1)))) := po_some (pe_un un_neg pe_int)
  refine wpAny_Slice (thn (po_none.run pins s1 σ H1 (fun o G => o = none ∧ G = H1) I1 ⟨rfl, rfl⟩) fun vl s2 ⟨l, H2, I2, pl, el, e2⟩ => ?_)
  obtain rfl := el
  obtain rfl := e2
  refine thn (po_none.run pins s2 σ H2 (fun o G => o = none ∧ G = H2) I2 ⟨rfl, rfl⟩) fun vu s3 ⟨u, H3, I3, pu, eu, e3⟩ => ?_
  obtain rfl := eu
  obtain rfl := e3
  refine thn (third.run pins s3 σ H3 (fun o G => o = some (-1) ∧ G = H3) I3 ⟨1, rfl, -1, rfl, rfl, rfl⟩) fun vs s4 ⟨o, H4, I4, ps, eo, e4⟩ => ?_
  obtain rfl := eo
  obtain rfl := e4
  have I5 : Inv X pins σ H4 { s4 with heap := s4.heap.push { cls := .type "slice", data := .fields #[vl, vu, vs] } } := I4.kept (t' := s4.toks) (fun b ob q => Heap.get?_push_of_some _ q)
  obtain ⟨its, r, ht, hz⟩ := I5.tuple two
  cases r with
  | cons ry r => cases r with
    | cons rz r =>
      cases r
      cases pl
      cases pu
      show wpAny (model X.prog X.w) X.A (subscriptTail e (.Slice none none (some (.UnaryOp .USub (.Constant (.int 1) k p1) p2)) p3) (.ref a) (.ref s4.heap.objs.size)) (EP X pins σ Q) X.xe _
      refine tail_any (ops := [.ref a, .ref s4.heap.objs.size]) ht.typeIs PyProof.Rows.slot_tuple_getitem.lookup ?_ (by with_unfolding_all rfl)
      refine HT.back_two ht (Heap.IsSliceOf.new _ _ _ vs) ps ?_
      exact ⟨.ref _, _, I5.laid (t' := s4.toks) (o := .tup [z, y]) (fun b ob q => Heap.get?_push_of_some _ q) (Nat.le_refl _) ⟨by show 2 ≤ sizeLine; decide, _, .cons rz (.cons ry .nil), IsTup.new _ _⟩, rfl, rest _ (I5.hok.fresh (Nat.le_refl _))⟩
end
end My
namespace Zl
open PySem PySem.Calls PyProof.Rows RZ
abbrev zob (o f : Value) (TI TO : Addr) : Obj := { cls := .type "zip", dict := none, data := .fields #[o, f, .bool false, .ref TI, .ref TO], slots := #[] }
section
variable {prog : Program} {w : World} {A : Around} {E : Value → Shared → Prop} {s : Shared}
theorem alive {a : Addr} {Q : Option Obj → Shared → Prop} (h : Q (s.heap.get? a) s) : wpAny (model prog w) A (loadIfAlive a) Q E s := fun Γ p _ => by
  unfold loadIfAlive
  rw [Sem.wp_loadIfAlive]
  exact h
/-- the tuple that was handed out first is still there -/
theorem held {z TI TO T0 : Addr} {o0 : Obj} {f : Bool} {Q : Bool → Shared → Prop} (isZ : s.heap.get? z = some (zob (rawInt T0) (.bool f) TI TO)) (there : s.heap.get? T0 = some o0)
    (h : ∀ h', h'.get? z = some (zob (rawInt T0) (.bool true) TI TO) → Heap.SameBut z s.heap h' → Q false { s with heap := h' }) : wpAny (model prog w) A (Builtin.SmallTypes.ownedTupleIsFree (.ref z)) Q E s := by
  unfold Builtin.SmallTypes.ownedTupleIsFree
  refine wpAny_bind (wpAny_field isZ rfl (x := rawInt T0) rfl ?_)
  show wpAny _ _ (loadIfAlive ((T0 : Int)).toNat >>= _) _ _ _
  refine wpAny_bind (alive ?_)
  rw [Int.toNat_natCast, there]
  show wpAny _ _ (field (.ref z) 1 >>= _) _ _ _
  refine wpAny_bind (wpAny_field isZ rfl (x := .bool f) rfl ?_)
  cases f with
  | true =>
    show wpAny _ _ (if (Value.bool true != Value.bool true) = true then _ else _) _ _ _
    rw [if_neg (by decide)]
    exact wpAny_pure (h s.heap isZ (Heap.SameBut.refl _ _))
  | false =>
    show wpAny _ _ (if (Value.bool false != Value.bool true) = true then _ else _) _ _ _
    rw [if_pos (by decide)]
    refine wpAny_bind (wpAny_setField_rec isZ (by simp) fun h₁ hz₁ hs₁ => ?_)
    exact wpAny_pure (h h₁ hz₁ hs₁)
theorem later_item {z TI TO T0 i1 i2 l1 l2 : Addr} {k1 k2 : Nat} {xs ys : Array Value} {x y : Value} {o0 : Obj} {f : Bool} {Q : Value → Shared → Prop} (D : ZipApart z TI TO i1 i2 l1 l2)
    (isZ : s.heap.get? z = some (zob (rawInt T0) (.bool f) TI TO)) (there : s.heap.get? T0 = some o0) (two : IsPair s.heap TI (.ref i1) (.ref i2))
    (h1 : s.heap.IsTupleIter i1 l1 k1) (h2 : s.heap.IsTupleIter i2 l2 k2) (hl1 : s.heap.IsTuple l1 xs) (hl2 : s.heap.IsTuple l2 ys) (hx : xs[k1]? = some x) (hy : ys[k2]? = some y)
    (hQ : ∀ h', h'.get? z = some (zob (rawInt T0) (.bool true) TI TO) → h'.IsTupleIter i1 l1 (k1 + 1) → h'.IsTupleIter i2 l2 (k2 + 1) → IsPair h' s.heap.objs.size x y → h'.objs.size = s.heap.objs.size + 1 →
      (∀ c o, c ≠ z → c ≠ i1 → c ≠ i2 → s.heap.get? c = some o → h'.get? c = some o) → Q (.ref s.heap.objs.size) { s with heap := h' }) :
    wpAny (model prog w) A (Builtin.«zip.__next__» ⟨[.ref z], []⟩) (fun fin s' => ∃ v, fin = .done (.ret v) ∧ Q v s') E s := by
  show wpAny _ _ (field (.ref z) 2 >>= _) _ _ _
  refine wpAny_bind (wpAny_field isZ rfl (x := .bool false) rfl (?_))
  show wpAny _ _ (field (.ref z) 3 >>= _) _ _ _
  refine wpAny_bind (wpAny_field isZ rfl (x := .ref TI) rfl (?_))
  refine wpAny_bind (wpAny_seqItems two rfl (?_))
  show wpAny _ _ (Builtin.SmallTypes.ownedTupleIsFree (.ref z) >>= _) _ _ _
  refine wpAny_bind (held isZ there fun g₁ z₁ e₁ => ?_)
  simp only [Bool.false_eq_true, if_false]
  refine wpAny_bind ?_
  rw [← Array.forIn_toList]
  simp only [List.forIn_cons, List.forIn_nil]
  refine wpAny_bind (wpAny_bind (wpAny_holding ?_))
  show wpAny _ _ (Builtin.SmallTypes.nextOf (.ref i1) >>= _) _ _ _
  refine wpAny_bind (nextOf_tuple_item (h1.extBut e₁.extBut D.i1z) (hl1.extBut e₁.extBut D.l1z) hx fun g₂ a₂ e₂ => wpAny_pure (?_))
  refine wpAny_pure (?_)
  refine wpAny_bind (wpAny_bind (wpAny_holding ?_))
  show wpAny _ _ (Builtin.SmallTypes.nextOf (.ref i2) >>= _) _ _ _
  refine wpAny_bind (nextOf_tuple_item ((h2.extBut e₁.extBut D.i2z).extBut e₂.extBut D.i12.symm) ((hl2.extBut e₁.extBut D.l2z).extBut e₂.extBut D.l2i1) hy fun g₃ b₃ e₃ => wpAny_pure (?_))
  refine wpAny_pure (?_)
  refine wpAny_pure (?_)
  show wpAny _ _ (newTuple [x, y] >>= _) _ _ _
  have size : g₃.objs.size = s.heap.objs.size := by rw [e₃.1, e₂.1, e₁.1]
  have kept : ∀ c o, c ≠ z → c ≠ i1 → c ≠ i2 → s.heap.get? c = some o → g₃.get? c = some o := fun c o n1 n2 n3 q => e₃.extBut _ _ n3 (e₂.extBut _ _ n2 (e₁.extBut _ _ n1 q))
  have z₃ : g₃.get? z = some (zob (rawInt T0) (.bool true) TI TO) := e₃.extBut _ _ D.i2z.symm (e₂.extBut _ _ D.i1z.symm z₁)
  have up : ∀ c o, g₃.get? c = some o → (g₃.push { cls := .type "tuple", data := .seq #[x, y] }).get? c = some o := fun c o q => Heap.get?_push_of_some _ q
  refine wpAny_bind (wpAny_newTuple (wpAny_pure ⟨_, rfl, ?_⟩))
  show Q (.ref g₃.objs.size) { s with heap := g₃.push { cls := .type "tuple", data := .seq #[x, y] } }
  rw [size]
  refine hQ _ (up _ _ z₃) ((a₂.extBut e₃.extBut D.i12).at fun o q => up _ o q) (b₃.at fun o q => up _ o q) ?_ (by rw [Heap.size_push, size]) fun c o n1 n2 n3 q => up _ _ (kept c o n1 n2 n3 q)
  rw [← size]
  exact Heap.get?_push_size _ rfl
theorem later_end {z TI TO T0 i1 i2 l1 l2 : Addr} {k1 : Nat} {xs : Array Value} {o0 : Obj} {f : Bool} {Q : PySem.Fin → Shared → Prop} (hh : A.handled = none) (D : ZipApart z TI TO i1 i2 l1 l2)
    (isZ : s.heap.get? z = some (zob (rawInt T0) (.bool f) TI TO)) (there : s.heap.get? T0 = some o0) (two : IsPair s.heap TI (.ref i1) (.ref i2))
    (h1 : s.heap.IsTupleIter i1 l1 k1) (hl1 : s.heap.IsTuple l1 xs) (hx : xs[k1]? = none)
    (hE : ∀ h' e, (∀ c o, c ≠ z → c ≠ i1 → s.heap.get? c = some o → h'.get? c = some o) → (∃ o, h'.get? e = some o ∧ o.cls = .type "StopIteration") → E (.ref e) { s with heap := h' }) :
    wpAny (model prog w) A (Builtin.«zip.__next__» ⟨[.ref z], []⟩) Q E s := by
  show wpAny _ _ (field (.ref z) 2 >>= _) _ _ _
  refine wpAny_bind (wpAny_field isZ rfl (x := .bool false) rfl (?_))
  show wpAny _ _ (field (.ref z) 3 >>= _) _ _ _
  refine wpAny_bind (wpAny_field isZ rfl (x := .ref TI) rfl (?_))
  refine wpAny_bind (wpAny_seqItems two rfl (?_))
  show wpAny _ _ (Builtin.SmallTypes.ownedTupleIsFree (.ref z) >>= _) _ _ _
  refine wpAny_bind (held isZ there fun g₁ z₁ e₁ => ?_)
  simp only [Bool.false_eq_true, if_false]
  refine wpAny_bind ?_
  rw [← Array.forIn_toList]
  simp only [List.forIn_cons, List.forIn_nil]
  refine wpAny_bind (wpAny_bind (wpAny_holding ?_))
  show wpAny _ _ (Builtin.SmallTypes.nextOf (.ref i1) >>= _) _ _ _
  exact wpAny_bind (nextOf_tuple_end hh (h1.extBut e₁.extBut D.i1z) (hl1.extBut e₁.extBut D.l1z) hx fun g₂ e e₂ he => hE g₂ e (fun c o n1 n2 q => e₂ _ _ n2 (e₁.extBut _ _ n1 q)) he)
/-- zip's next, by pyNext -/
theorem pyNext_later_item {z TI TO T0 i1 i2 l1 l2 : Addr} {k1 k2 : Nat} {xs ys : Array Value} {x y : Value} {o0 : Obj} {f : Bool} {Q : Option Value → Shared → Prop} (D : ZipApart z TI TO i1 i2 l1 l2)
    (isZ : s.heap.get? z = some (zob (rawInt T0) (.bool f) TI TO)) (there : s.heap.get? T0 = some o0) (two : IsPair s.heap TI (.ref i1) (.ref i2))
    (h1 : s.heap.IsTupleIter i1 l1 k1) (h2 : s.heap.IsTupleIter i2 l2 k2) (hl1 : s.heap.IsTuple l1 xs) (hl2 : s.heap.IsTuple l2 ys) (hx : xs[k1]? = some x) (hy : ys[k2]? = some y)
    (hQ : ∀ h', h'.get? z = some (zob (rawInt T0) (.bool true) TI TO) → h'.IsTupleIter i1 l1 (k1 + 1) → h'.IsTupleIter i2 l2 (k2 + 1) → IsPair h' s.heap.objs.size x y → h'.objs.size = s.heap.objs.size + 1 →
      (∀ c o, c ≠ z → c ≠ i1 → c ≠ i2 → s.heap.get? c = some o → h'.get? c = some o) → Q (some (.ref s.heap.objs.size)) { s with heap := h' }) :
    wpAny (model prog w) A (pyNext (.ref z)) Q E s := by
  have isT : s.TypeIs (.ref z) "zip" := ⟨_, isZ, rfl⟩
  unfold pyNext
  exact wpAny_bind (wpAny_attempt (wpAny_callSpecial?_slot (name := Str.ofString "__next__") isT F.slot_zip_next (wpAny_call_entry F.slot_zip_next isT F.entry_zip_next
    (later_item D isZ there two h1 h2 hl1 hl2 hx hy fun h' a1 a2 a3 a4 a5 a6 => wpAny_pure (hQ h' a1 a2 a3 a4 a5 a6)) (F.args_zip_next_1 _))))
theorem pyNext_later_end {z TI TO T0 i1 i2 l1 l2 : Addr} {k1 : Nat} {xs : Array Value} {o0 : Obj} {f : Bool} {Q : Option Value → Shared → Prop} (hh : A.handled = none) (D : ZipApart z TI TO i1 i2 l1 l2)
    (isZ : s.heap.get? z = some (zob (rawInt T0) (.bool f) TI TO)) (there : s.heap.get? T0 = some o0) (two : IsPair s.heap TI (.ref i1) (.ref i2))
    (h1 : s.heap.IsTupleIter i1 l1 k1) (hl1 : s.heap.IsTuple l1 xs) (hx : xs[k1]? = none)
    (hQ : ∀ h', (∀ c o, c ≠ z → c ≠ i1 → s.heap.get? c = some o → h'.get? c = some o) → Q none { s with heap := h' }) : wpAny (model prog w) A (pyNext (.ref z)) Q E s := by
  have isT : s.TypeIs (.ref z) "zip" := ⟨_, isZ, rfl⟩
  unfold pyNext
  refine wpAny_bind (wpAny_attempt (wpAny_callSpecial?_slot (name := Str.ofString "__next__") isT F.slot_zip_next (wpAny_call_entry F.slot_zip_next isT F.entry_zip_next
    (later_end hh D isZ there two h1 hl1 hx fun h' e kept isStop => ?_) (F.args_zip_next_1 _))))
  obtain ⟨o, ho, hc⟩ := isStop
  exact wpAny_bind (wpAny_isInstance (T := "StopIteration") (b := true) ⟨o, ho, hc⟩ isSubtype_stop (wpAny_pure (hQ _ kept)))
end
end Zl
namespace Zl
open PySem PySem.Calls PyProof.Rows RZ L2
theorem zip_no_len : typeLookup (.type "zip") "__len__" = pure none := by rw [typeLookup_type, builtinLookup_eq_fast]; kernel_rfl
theorem zip_no_hint : typeLookup (.type "zip") "__length_hint__" = pure none := by rw [typeLookup_type, builtinLookup_eq_fast]; kernel_rfl
section
variable {X : L2.Cx} {pins : List (Addr × Obj)} {σ : L2.St}
/-- zip's five objects, k pairs handed out; T0: the first of them -/
def Zst (h : Heap) (z TI TO i1 i2 a b : Addr) (ps : List Addr) : Prop :=
  IsPair h TI (.ref i1) (.ref i2) ∧ h.IsTupleIter i1 a ps.length ∧ h.IsTupleIter i2 b ps.length ∧
  (∃ u v, IsPair h TO u v) ∧ match ps with
  | [] => IsZip h z TI TO .none
  | p :: _ => ∃ f, h.get? z = some (zob (rawInt p) (.bool f) TI TO)
theorem drain {z TI TO i1 i2 a b S : Addr} {xs ys : List V} {H0 : Hp} {B : Around} {R : Result → Shared → Prop} {res : Value} (hh : B.handled = none) (D : ZipApart z TI TO i1 i2 a b) (hS : S ∉ [z, TI, TO, i1, i2, a, b]) (hl : xs.length = ys.length) (hz : xs.length ≤ 1000)
    (hend : ∀ s' H' (ps : List Addr) (acc : Array Value) c, ps.length = xs.length → Inv X pins σ H' s' → FpOk X pins H' S → s'.heap.get? S = some (lstObj acc c) → Vals (ps.map V.ref) acc.toList → (∀ c o, H0 c = some o → H' c = some o) →
      (∀ (i : Nat) p x y, ps[i]? = some p → xs[i]? = some x → ys[i]? = some y → H' p = some (.tup [x, y])) → R (.ok (.ret res)) s') :
    ∀ (m : Nat) (s : Shared) (H : Hp) (ps : List Addr) (acc : Array Value) c, ps.length + m = xs.length → Inv X pins σ H s → (∀ c ∈ [z, TI, TO, i1, i2, S], FpOk X pins H c) → SqT X.K H a xs → SqT X.K H b ys → Zst s.heap z TI TO i1 i2 a b ps → s.heap.get? S = some (lstObj acc c) → Vals (ps.map V.ref) acc.toList → (∀ c o, H0 c = some o → H c = some o) →
      (∀ (i : Nat) p x y, ps[i]? = some p → xs[i]? = some x → ys[i]? = some y → H p = some (.tup [x, y])) → codeAny (model X.prog X.w) B (.builtin "list.extend.loop" ⟨[.ref S, .ref z, res], []⟩) R s := by
  have Sz : S ≠ z := fun e => hS (by simp [e])
  have STI : S ≠ TI := fun e => hS (by simp [e])
  have STO : S ≠ TO := fun e => hS (by simp [e])
  have Si1 : S ≠ i1 := fun e => hS (by simp [e])
  have Si2 : S ≠ i2 := fun e => hS (by simp [e])
  intro m
  induction m with
  | zero =>
    intro s H ps acc c count I fp hx hy st here rv old pairs
    refine codeAny_builtin F.entry_extend_loop ?_
    rw [Around.under_plainId F.plain_extend_loop _]
    show wpAny _ B.in1 (pyNext (.ref z) >>= _) _ _ s
    obtain ⟨its, rx, tx, _⟩ := I.tuple hx
    obtain ⟨its2, ry, ty, _⟩ := I.tuple hy
    have lx := rx.length
    have none_ : its.toArray[ps.length]? = none := by simp; omega
    obtain ⟨tI, a1, a2, ⟨u', v', tO⟩, own⟩ := st
    have fin : ∀ h', (∀ c o, c ≠ z → c ≠ TO → c ≠ i1 → c ≠ i2 → s.heap.get? c = some o → h'.get? c = some o) → R (.ok (.ret res)) { s with heap := h' } := fun h' k => by
      refine hend _ H ps acc c (by omega) (I.turnedL (t' := s.toks) (ch := [z, TI, TO, i1, i2]) (fun c o hc q => ?_) fun c hc => fp c ?_) (fp S (by simp)) (k S _ Sz STO Si1 Si2 here) rv old pairs
      · simp only [List.mem_cons, List.not_mem_nil, or_false, not_or] at hc
        exact k c o hc.1 hc.2.2.1 hc.2.2.2.1 hc.2.2.2.2 q
      · simp only [List.mem_cons, List.not_mem_nil, or_false] at hc ⊢
        rcases hc with hc | hc | hc | hc | hc <;> simp [hc]
    cases ps with
    | nil =>
      exact wpAny_bind (pyNext_zipT_end hh D own tI tO a1 a2 tx ty (.inl none_) fun h' k => wpAny_pure (fin h' k))
    | cons p qs =>
      obtain ⟨f, isZ⟩ := own
      have x0 : ∃ x, xs[0]? = some x := ⟨_, List.getElem?_eq_getElem (by simp at count; omega)⟩
      have y0 : ∃ y, ys[0]? = some y := ⟨_, List.getElem?_eq_getElem (by simp at count; omega)⟩
      obtain ⟨x0, x0'⟩ := x0
      obtain ⟨y0, y0'⟩ := y0
      obtain ⟨_, _, ⟨o0, there, _⟩, _⟩ := I.tuple (SqT.of (K := X.K) (pairs 0 p x0 y0 rfl x0' y0'))
      exact wpAny_bind (pyNext_later_end hh D isZ there tI a1 tx none_ fun h' k => wpAny_pure (fin h' fun c o n1 n2 n3 n4 q => k c o n1 n3 q))
  | succ m ih =>
    intro s H ps acc c count I fp hx hy st here rv old pairs
    refine codeAny_builtin F.entry_extend_loop ?_
    rw [Around.under_plainId F.plain_extend_loop _]
    show wpAny _ B.in1 (pyNext (.ref z) >>= _) _ _ s
    obtain ⟨its, rx, tx, _⟩ := I.tuple hx
    obtain ⟨its2, ry, ty, _⟩ := I.tuple hy
    have hx1 : xs[ps.length]? = some xs[ps.length] := List.getElem?_eq_getElem (by omega)
    have hy1 : ys[ps.length]? = some ys[ps.length] := List.getElem?_eq_getElem (by omega)
    obtain ⟨u, hu, ru⟩ := rx.get hx1
    obtain ⟨u2, hu2, ru2⟩ := ry.get hy1
    obtain ⟨tI, a1, a2, ⟨u', v', tO⟩, own⟩ := st
    have la : acc.size = ps.length := by
      have := rv.length
      rw [List.length_map, Array.length_toList] at this
      exact this.symm
    have hT : H s.heap.objs.size = none := I.hok.fresh (Nat.le_refl _)
    have zlt : z < s.heap.objs.size := by
      cases ps with
      | nil => exact Heap.lt_size own
      | cons p qs => obtain ⟨f, q⟩ := own; exact Heap.lt_size q
    have i1lt : i1 < s.heap.objs.size := by obtain ⟨_, q, _⟩ := a1; exact Heap.lt_size q
    have i2lt : i2 < s.heap.objs.size := by obtain ⟨_, q, _⟩ := a2; exact Heap.lt_size q
    have old_ : ∀ c ∈ [z, TI, TO, i1, i2, S], c < s.heap.objs.size := fun c hc => by
      simp only [List.mem_cons, List.not_mem_nil, or_false] at hc
      rcases hc with rfl | rfl | rfl | rfl | rfl | rfl
      · exact zlt
      · exact Heap.lt_size tI
      · exact Heap.lt_size tO
      · exact i1lt
      · exact i2lt
      · exact Heap.lt_size here
    have on : ∀ (h' : Heap) (p0 : Addr) (f : Bool), ((ps = [] ∧ p0 = s.heap.objs.size) ∨ ps.head? = some p0) → h'.get? z = some (zob (rawInt p0) (.bool f) TI TO) → (∃ u v, IsPair h' TO u v) → h'.IsTupleIter i1 a (ps.length + 1) → h'.IsTupleIter i2 b (ps.length + 1) → IsPair h' s.heap.objs.size u u2 →
        (∀ c o, c ≠ z → c ≠ TO → c ≠ i1 → c ≠ i2 → s.heap.get? c = some o → h'.get? c = some o) →
        wpAny (model X.prog X.w) B.in1 (updateSeq S (·.push (.ref s.heap.objs.size)) >>= fun _ => again (.builtin "list.extend.loop" ⟨[.ref S, .ref z, res], []⟩)) (fun fin s' => match fin with
          | .done f => R (.ok f) s'
          | .again c' => c'.quiet = true ∧ codeAny (model X.prog X.w) B c' R s') (fun e s' => R (.error e) s') { s with heap := h' } := by
      intro h' p0 f first isZ tO' b1 b2 pair kept
      have new : ObjOk X.prog X.w (upd H s.heap.objs.size (.tup [xs[ps.length], ys[ps.length]])) h' s.heap.objs.size (.tup [xs[ps.length], ys[ps.length]]) := ⟨by show 2 ≤ sizeLine; decide, [u, u2], .cons ru (.cons ru2 .nil), ⟨_, pair, rfl, _, rfl⟩⟩
      have I1 : Inv X pins σ (upd H s.heap.objs.size (.tup [xs[ps.length], ys[ps.length]])) { s with heap := h' } := I.turnedNew (t' := s.toks) (ch := [z, TI, TO, i1, i2]) (fun c o hc q => by
        simp only [List.mem_cons, List.not_mem_nil, or_false, not_or] at hc
        exact kept c o hc.1 hc.2.2.1 hc.2.2.2.1 hc.2.2.2.2 q) (fun c hc => fp c (by
        simp only [List.mem_cons, List.not_mem_nil, or_false] at hc ⊢
        rcases hc with hc | hc | hc | hc | hc <;> simp [hc])) (Nat.le_refl _) new
      have here' := kept S _ Sz STO Si1 Si2 here
      have fp' : ∀ c ∈ [z, TI, TO, i1, i2, S], FpOk X pins (upd H s.heap.objs.size (.tup [xs[ps.length], ys[ps.length]])) c := fun c hc => ⟨by rw [upd_ne (Nat.ne_of_lt (old_ c hc))]; exact (fp c hc).1, (fp c hc).2⟩
      have keep3 : ∀ c o, c ≠ S → h'.get? c = some o → (h'.update S (Obj.mapSeq (·.push (.ref s.heap.objs.size)))).get? c = some o := fun c o n q => (Heap.get?_update_other _ _ (Ne.symm n)).trans q
      have I2 : Inv X pins σ (upd H s.heap.objs.size (.tup [xs[ps.length], ys[ps.length]])) { s with heap := h'.update S (Obj.mapSeq (·.push (.ref s.heap.objs.size))) } := Inv.turnedL (s := { s with heap := h' }) (t' := s.toks) (ch := [S]) I1 (fun c o hc q => keep3 c o (by simpa using hc) q) fun c hc => fp' c (by rw [List.mem_singleton.mp hc]; simp)
      refine wpAny_bind (wpAny_updateSeq here' rfl (wpAny_pure ⟨plainId_quiet F.plain_extend_loop _, ?_⟩) (by show acc.size ≤ sizeLine; rw [la]; exact Nat.le_trans (show ps.length ≤ 1000 by omega) (by decide)) (by show (acc.push _).size ≤ sizeLine + 1; rw [Array.size_push, la]; exact Nat.le_trans (show ps.length + 1 ≤ 1001 by omega) (by decide)))
      refine ih _ _ (ps ++ [s.heap.objs.size]) (acc.push (.ref s.heap.objs.size)) _ (by simp; omega) I2 fp' (My.tOver hT hx) (My.tOver hT hy) ⟨keep3 _ _ STI.symm (kept _ _ D.TIz D.TITO D.TIi1 D.TIi2 tI), ?_, ?_, ?_, ?_⟩ (Heap.get?_update_self _ here' rfl) ?_ (fun c o q => ?_) fun i p x y e1 e2 e3 => ?_
      · rw [List.length_append]
        exact b1.at fun o q => keep3 _ o Si1.symm q
      · rw [List.length_append]
        exact b2.at fun o q => keep3 _ o Si2.symm q
      · obtain ⟨u', v', q⟩ := tO'
        exact ⟨u', v', keep3 _ _ STO.symm q⟩
      · cases ps with
        | nil =>
          rcases first with ⟨_, e⟩ | e
          · subst e
            exact ⟨f, keep3 _ _ Sz.symm isZ⟩
          · cases e
        | cons p qs =>
          rcases first with ⟨e, _⟩ | e
          · cases e
          · injection e with e
            subst e
            exact ⟨f, keep3 _ _ Sz.symm isZ⟩
      · rw [Array.toList_push, List.map_append]
        exact rv.append (.cons rfl .nil)
      · rw [upd_ne (ne_of_none (old c o q) hT)]
        exact old c o q
      · by_cases q : i < ps.length
        · rw [List.getElem?_append_left q] at e1
          have := pairs i p x y e1 e2 e3
          rw [upd_ne (ne_of_none this hT)]
          exact this
        · rw [List.getElem?_append_right (by omega)] at e1
          have e4 : i = ps.length := by
            have := (List.getElem?_eq_some_iff.mp e1).1
            simp at this
            omega
          subst e4
          rw [Nat.sub_self] at e1
          cases e1
          rw [hx1] at e2
          rw [hy1] at e3
          cases e2
          cases e3
          exact upd_same
    cases ps with
    | nil => exact wpAny_bind (pyNext_zipT_item D own tI tO a1 a2 tx ty (by simpa using hu) (by simpa using hu2) fun h' z' o' b1 b2 pair _ kept => on h' _ false (.inl ⟨rfl, rfl⟩) z' ⟨_, _, o'⟩ b1 b2 pair kept)
    | cons p qs =>
      obtain ⟨f, isZ⟩ := own
      obtain ⟨x0, x0'⟩ : ∃ x, xs[0]? = some x := ⟨_, List.getElem?_eq_getElem (by omega)⟩
      obtain ⟨y0, y0'⟩ : ∃ y, ys[0]? = some y := ⟨_, List.getElem?_eq_getElem (by omega)⟩
      obtain ⟨_, _, ⟨o0, there, _⟩, _⟩ := I.tuple (SqT.of (K := X.K) (pairs 0 p x0 y0 rfl x0' y0'))
      exact wpAny_bind (pyNext_later_item D isZ there tI a1 a2 tx ty (by simpa using hu) (by simpa using hu2) fun h' z' b1 b2 pair _ kept => on h' p true (.inr rfl) z' ⟨_, _, kept _ _ D.TOz D.TOi1 D.TOi2 tO⟩ b1 b2 pair fun c o n1 _ n3 n4 q => kept c o n1 n3 n4 q)
/-- a list of ours that was not followed is followed now -/
theorem tracked {S : Addr} {H : Hp} {s : Shared} {acc : Array Value} {c : Nat} {out : List V} (I : Inv X pins σ H s) (f : FpOk X pins H S) (e : s.heap.get? S = some (lstObj acc c)) (r : Vals out acc.toList) (size : out.length ≤ sizeLine) : Inv X pins σ (upd H S (.lst out)) s := by
  have free := f.1
  refine I.call' (ch := [S]) rfl ⟨fun b o q _ _ _ => q, fun b o q _ _ _ => ⟨o.slots, q⟩, fun b o _ n hx => ?_, fun b o q _ => ⟨o, q⟩, fun b xs q => ?_, fun b o u q => ?_, fun b ps q => ⟨#[], ?_⟩⟩ (fun b u q => ?_) I.bare fun b hb => ?_
  · rw [upd_ne (by simpa using hx)]; exact n
  · rw [upd_ne (ne_of_none q free)]; exact q
  · rw [upd_ne (ne_of_none q free)]; exact q
  · rw [upd_ne (ne_of_none q free), q]; simp
  · by_cases same : b = S
    · subst same
      rw [upd_same] at q
      cases q
      exact ⟨size, acc.toList, c, r, by rw [e]⟩
    · rw [upd_ne same] at q
      exact (I.hok b u q).stay (fun _ _ _ k => k) (fun d k => by rw [upd_ne (ne_of_none k free)]; exact k) (fun d xs k => by rw [upd_ne (ne_of_none k free)]; exact k)
  · rw [List.mem_singleton.mp hb]
    exact ⟨f.2.2.2.1, f.2.1, f.2.2.2.2.1, f.2.2.2.2.2⟩
theorem list_of_zip {H : Hp} {s : Shared} {z TI TO i1 i2 a b : Addr} {xs ys : List V} {Q : VK} (hh : X.A.handled = none) (I : Inv X pins σ H s) (D : ZipApart z TI TO i1 i2 a b) (fp : ∀ c ∈ [z, TI, TO, i1, i2], FpOk X pins H c) (hx : SqT X.K H a xs) (hy : SqT X.K H b ys) (hl : xs.length = ys.length) (hz : xs.length ≤ 1000)
    (st : Zst s.heap z TI TO i1 i2 a b [])
    (goal : ∀ S (ps : List Addr) H', ps.length = xs.length → (∀ c o, H c = some o → H' c = some o) → (∀ (i : Nat) p x y, ps[i]? = some p → xs[i]? = some x → ys[i]? = some y → H' p = some (.tup [x, y])) → H' S = none → Q (.ref S) (upd H' S (.lst (ps.map V.ref)))) :
    wpAny (model X.prog X.w) X.A (call (.type "list") [.ref z]) (EP X pins σ Q) X.xe s := by
  obtain ⟨tI, a1, a2, ⟨u', v', tO⟩, isZ⟩ := id st
  have zlt : z < s.heap.objs.size := Heap.lt_size isZ
  have Sz : s.heap.objs.size ≠ z := Nat.ne_of_gt zlt
  refine callType_codes (Q₁ := fun made s₁ => made = .ref s.heap.objs.size ∧ s₁ = { s with heap := s.heap.push { cls := .type "list", data := .seq #[] } }) F.called_list (F.typeCall_list_1 _) F.entry_list_init (code_list_new _ (⟨rfl, rfl⟩)) fun made s₁ told => ?_
  obtain ⟨rfl, rfl⟩ := told
  have born : (s.heap.push { cls := .type "list", data := .seq #[] }).get? s.heap.objs.size = some { cls := .type "list", data := .seq #[] } := Heap.get?_push_size _ (rfl)
  refine ⟨⟨_, born, rfl⟩, F.args_list_init_2 _ _, ?_⟩
  show wpAny _ X.A.in1.in1 (do let before ← Builtin.List.listItems (.ref s.heap.objs.size); Builtin.List.listUpdate (.ref s.heap.objs.size) (fun _ => #[]); letGo before.toList.reverse; Builtin.List.listExtendWith (.ref s.heap.objs.size) (.ref z) .none) _ _ _
  refine wpAny_bind (?_)
  unfold Builtin.List.listItems
  refine wpAny_bind (wpAny_seqItems born rfl (wpAny_pure (?_)))
  show wpAny _ X.A.in1.in1 (updateSeq s.heap.objs.size (fun _ => #[]) >>= fun _ => letGo (#[] : Array Value).toList.reverse >>= fun _ => Builtin.List.listExtendWith (.ref s.heap.objs.size) (.ref z) .none) _ _ _
  refine wpAny_bind (wpAny_updateSeq born rfl (?_))
  have born2 := Heap.get?_update_self (Obj.mapSeq (fun _ => (#[] : Array Value))) born (rfl)
  refine wpAny_bind (wpAny_letGo (?_))
  unfold Builtin.List.listExtendWith
  have over : ∀ (h : Heap) (f : Obj → Obj), (∀ c o, s.heap.get? c = some o → h.get? c = some o) → ∀ c o, s.heap.get? c = some o → (h.update s.heap.objs.size f).get? c = some o := fun h f k c o e =>
    (Heap.get?_update_other _ _ (Ne.symm (Nat.ne_of_lt (Heap.lt_size e)))).trans (k c o e)
  have kept1 : ∀ c o, s.heap.get? c = some o → (s.heap.push { cls := .type "list", data := .seq #[] }).get? c = some o := fun c o e => Heap.get?_push_of_some _ (e)
  have kept2 := over _ (Obj.mapSeq (fun _ => (#[] : Array Value))) kept1
  have isT : ∀ {h : Heap}, (∀ c o, s.heap.get? c = some o → h.get? c = some o) → ({ s with heap := h } : Shared).TypeIs (.ref z) "zip" := fun {h} k => ⟨_, k _ _ isZ, rfl⟩
  refine wpAny_bind (wpAny_typeOf (isT kept2) (?_))
  have no1 : Builtin.List.listSameRef (.ref s.heap.objs.size) (.ref z) = false := by simp [Builtin.List.listSameRef, Sz]
  have no2 : (Value.type "zip" == Value.type "list") = false := by decide
  have no3 : (Value.type "zip" == Value.type "tuple") = false := by decide
  simp only [no1, no2, no3, Bool.or_false, Bool.false_eq_true, if_false]
  refine wpAny_bind (wpAny_pyIter_zip (s := { s with heap := _ }) (kept2 _ _ isZ) (?_))
  refine wpAny_bind (wpAny_holding (?_))
  unfold Builtin.List.listLengthHint
  refine wpAny_bind (wpAny_specialOf (isT kept2) zip_no_len (?_))
  show wpAny _ X.A.in1.in1 (specialOf (Value.ref z) (Str.ofString "__length_hint__") >>= _) _ _ _
  refine wpAny_bind (wpAny_specialOf (isT kept2) zip_no_hint (?_))
  refine wpAny_pure (?_)
  show wpAny _ X.A.in1.in1 (rule "list.extend.makes-room" >>= fun _ => Builtin.List.listTouch (.ref s.heap.objs.size) >>= fun _ => again (.builtin "list.extend.loop" ⟨[.ref s.heap.objs.size, .ref z, .none], []⟩)) _ _ _
  refine wpAny_bind (wpAny_rule (?_))
  refine wpAny_bind (?_)
  show wpAny _ X.A.in1.in1 (updateSeq s.heap.objs.size (·.push .none) >>= fun _ => updateSeq s.heap.objs.size (·.pop)) _ _ _
  refine wpAny_bind (wpAny_updateSeq born2 rfl (?_))
  have born3 := Heap.get?_update_self (Obj.mapSeq (·.push Value.none)) born2 (rfl)
  refine wpAny_updateSeq (hz := by seq_fits) born3 rfl (?_)
  have born4 := Heap.get?_update_self (Obj.mapSeq (·.pop)) born3 (rfl)
  have kept4 := over _ (Obj.mapSeq (·.pop)) (over _ (Obj.mapSeq (·.push Value.none)) kept2)
  refine wpAny_pure ⟨plainId_quiet F.plain_extend_loop _, ?_⟩
  have newS : FpOk X pins H s.heap.objs.size := I.fpOk (Nat.le_refl _) (I.hok.fresh (Nat.le_refl _))
  have ofS : ∀ c o, s.heap.get? c = some o → s.heap.objs.size ≠ c := fun c o q => Nat.ne_of_gt (Heap.lt_size q)
  have ofT : ∀ {t : Addr} {ws : List V}, SqT X.K H t ws → s.heap.objs.size ≠ t := fun {t ws} q => by
    obtain ⟨_, _, p, _⟩ := I.tuple q
    exact Nat.ne_of_gt p.lt
  refine drain (X := X) (pins := pins) (σ := σ) (S := s.heap.objs.size) (H0 := H) (B := X.A.in1) hh D ?_ hl hz (fun s' H' ps acc c e1 I' fS e2 rv old pairs => ⟨rfl, .ref s.heap.objs.size, _, tracked I' fS e2 rv (by rw [List.length_map, e1]; exact Nat.le_trans hz (by decide)), rfl, goal _ ps H' e1 old pairs fS.1⟩) xs.length _ H [] _ _ (by simp) (I.kept (t' := s.toks) kept4) ?_ hx hy ⟨kept4 _ _ tI, ?_, ?_, ⟨u', v', kept4 _ _ tO⟩, kept4 _ _ isZ⟩ born4 .nil (fun _ _ q => q) (fun i p x y q => by cases q)
  · simp only [List.mem_cons, List.not_mem_nil, or_false, not_or]
    obtain ⟨_, q1, _⟩ := a1
    obtain ⟨_, q2, _⟩ := a2
    exact ⟨Sz, ofS _ _ tI, ofS _ _ tO, ofS _ _ q1, ofS _ _ q2, ofT hx, ofT hy⟩
  · intro c hc
    simp only [List.mem_cons, List.not_mem_nil, or_false] at hc
    rcases hc with rfl | rfl | rfl | rfl | rfl | rfl
    · exact fp _ (by simp)
    · exact fp _ (by simp)
    · exact fp _ (by simp)
    · exact fp _ (by simp)
    · exact fp _ (by simp)
    · exact newS
  · exact a1.at fun o q => kept4 _ o q
  · exact a2.at fun o q => kept4 _ o q
end
end Zl
namespace Zl
open PySem PySem.Calls PyProof.Rows RZ L2
/-- list(zip(t, u)), two tuples of one length: the pairs are new -/
def tListZip (K : PySem.W.Frag) (ta : TA) : TE := fun σ H Q => ta σ H fun vs H1 => ∃ a b xs ys, vs = [.ref a, .ref b] ∧ SqT K H1 a xs ∧ SqT K H1 b ys ∧ xs.length = ys.length ∧ xs.length ≤ 1000 ∧
  ∀ S (ps : List Addr) H', ps.length = xs.length → (∀ c o, H1 c = some o → H' c = some o) → (∀ (i : Nat) p x y, ps[i]? = some p → xs[i]? = some x → ys[i]? = some y → H' p = some (.tup [x, y])) → H' S = none → Q (.ref S) (upd H' S (.lst (ps.map V.ref)))
section
variable {X : L2.Cx}
theorem pe_listZip {e e2 : Expr} {ta : TA} {p p0 pos pos0 : Pos} (hc : X.calm = true) (hgl : Gl X "list") (hml : X.mg "list" = none) (hg : Gl X "zip") (hm : X.mg "zip" = none) (ha : PA X [e, e2] ta)
    (he : starEach [.Call (.Name "zip" p) [e, e2] [] pos] X.env = (false, eval (.Call (.Name "zip" p) [e, e2] [] pos) X.env) :: starEach [] X.env := by rfl)
    (hs : starEach [e, e2] X.env = (false, eval e X.env) :: starEach [e2] X.env := by rfl) (hpl : (backTo pos (starEach [e2] X.env)).any (·.1) = false := by rfl) :
    PE X (.Call (.Name "list" p0) [.Call (.Name "zip" p) [e, e2] [] pos] [] pos0) (tListZip X.K ta) := by
  refine ⟨fun pins s σ H Q I h => ?_⟩
  have isList : bootBuiltins "list" = some (.type "list") := by decide +kernel
  refine wpAny_Call_Name_kw (ld_blt I hgl hml isList ?_ (by decide) (by decide))
  refine PyProof.Rows.callWith_type1 ?_ he (by rfl)
  rw [he]
  show wpAny _ _ (spliced ((false, eval (.Call (.Name "zip" p) [e, e2] [] pos) X.env) :: backTo pos0 (starEach [] X.env))) _ _ s
  refine Calls.spliced_cons ?_
  refine wpAny_Call_Name_kw (ld_blt I hg hm PyProof.Rows.boot_zip ?_ (by decide) (by decide))
  refine PyProof.Rows.callWith_type1 (thn (ha.run pos pins s σ H _ I h) fun us s1 ⟨vs, H1, I1, r1, q1⟩ => ?_) hs hpl
  obtain ⟨a, b, xs, ys, ex, hx, hy, hl, hz, goal⟩ := q1
  subst ex
  cases r1 with
  | cons r rr =>
    cases rr with
    | cons r' rr =>
      cases rr
      cases r
      cases r'
      obtain ⟨its, rv, p1, _⟩ := I1.tuple hx
      obtain ⟨its2, rv2, p2, _⟩ := I1.tuple hy
      obtain ⟨o1, ho1, _⟩ := id p1
      obtain ⟨o2, ho2, _⟩ := id p2
      refine call_zipT (show s1.heap.IsTuple a its.toArray from p1) (show s1.heap.IsTuple b its2.toArray from p2) fun h' z tI tO a1 a2 hsz hk => ?_
      refine Calls.spliced_nil ?_
      have I2 : Inv X pins σ H1 { s1 with heap := h' } := I1.kept (t' := s1.toks) hk
      refine list_of_zip (s := { s1 with heap := h' }) (I1.ok.hd hc) I2 (PySem.W.ktu_apart s1.heap.objs.size a b (Heap.lt_size ho1) (Heap.lt_size ho2)) (fun c hcm => ?_) hx hy hl hz ⟨tI, a1, a2, ⟨_, _, tO⟩, z⟩ goal
      have base : s1.heap.objs.size ≤ c := by
        simp only [List.mem_cons, List.not_mem_nil, or_false] at hcm
        rcases hcm with q | q | q | q | q <;> rw [q]
        · exact Nat.le_add_right _ 4
        · exact Nat.le_add_right _ 2
        · exact Nat.le_add_right _ 3
        · exact Nat.le_refl _
        · exact Nat.le_add_right _ 1
      exact I1.fpOk base (I1.hok.fresh base)
end
end Zl
namespace My
open PySem L2
/-! ## rings of four forms -/
theorem tn_par1 {a b c d : Pt} (h : tn c d a = 0) : tn a b c * (d.1 - a.1) = tn a b d * (c.1 - a.1) := by
  unfold tn turnI at *
  grind
theorem tn_par2 {a b c d : Pt} (h : tn c d a = 0) : tn a b c * (d.2 - a.2) = tn a b d * (c.2 - a.2) := by
  unfold tn turnI at *
  grind
theorem mul_opp {s t u v : Int} (hs : 0 < s) (ht : 0 < t) (h : s * u = t * v) (o : (0 ≤ u ∧ v ≤ 0) ∨ (u ≤ 0 ∧ 0 ≤ v)) : u = 0 ∧ v = 0 := by
  rcases o with ⟨h1, h2⟩ | ⟨h1, h2⟩
  · have e1 := prod_nn (x := s) (y := u) (by omega) h1
    have e2 := prod_np (x := t) (y := v) (by omega) h2
    exact ⟨(Int.mul_eq_zero.mp (show s * u = 0 by omega)).resolve_left (by omega), (Int.mul_eq_zero.mp (show t * v = 0 by omega)).resolve_left (by omega)⟩
  · have e1 := prod_np (x := s) (y := u) (by omega) h1
    have e2 := prod_nn (x := t) (y := v) (by omega) h2
    exact ⟨(Int.mul_eq_zero.mp (show s * u = 0 by omega)).resolve_left (by omega), (Int.mul_eq_zero.mp (show t * v = 0 by omega)).resolve_left (by omega)⟩
theorem mul_opn {s t u v : Int} (hs : s < 0) (ht : t < 0) (h : s * u = t * v) (o : (0 ≤ u ∧ v ≤ 0) ∨ (u ≤ 0 ∧ 0 ≤ v)) : u = 0 ∧ v = 0 :=
  mul_opp (s := 0 - s) (t := 0 - t) (by omega) (by omega) (by grind) o
theorem no_end {a b c d : Pt} (h : (0 < tn a b c ∧ 0 < tn a b d) ∨ (tn a b c < 0 ∧ tn a b d < 0)) : box a c d = false := by
  refine Bool.eq_false_iff.mpr fun z => ?_
  obtain ⟨h0, hx, hy⟩ := box_iff.mp z
  have x := tn_par1 (b := b) h0
  have y := tn_par2 (b := b) h0
  have both : c.1 = a.1 ∧ c.2 = a.2 := by
    rcases h with ⟨h1, h2⟩ | ⟨h1, h2⟩
    · have := mul_opp h1 h2 x (by omega)
      have := mul_opp h1 h2 y (by omega)
      omega
    · have := mul_opn h1 h2 x (by omega)
      have := mul_opn h1 h2 y (by omega)
      omega
  have : tn a b c = 0 := by
    unfold tn turnI
    rw [both.1, both.2]; grind
  omega
/-- both ends of one strictly on one side of the other -/
theorem apart_side {a b c d : Pt} (h : (0 < tn a b c ∧ 0 < tn a b d) ∨ (tn a b c < 0 ∧ tn a b d < 0)) : Apart2 a b c d := by
  refine ⟨no_end h, no_end (a := b) (b := a) ?_, ?_, ?_, ?_⟩
  · rw [tn_flip a b c, tn_flip a b d]; omega
  · exact Bool.eq_false_iff.mpr fun z => by have := (box_iff.mp z).1; omega
  · exact Bool.eq_false_iff.mpr fun z => by have := (box_iff.mp z).1; omega
  · rintro ⟨z, _⟩
    rcases h with ⟨h1, h2⟩ | ⟨h1, h2⟩
    · have := Int.mul_pos h1 h2; omega
    · have := Int.mul_pos_of_neg_of_neg h1 h2; omega
theorem pt4 (a b c d : Zp) : pt [a, b, c, d] 0 = a.2 ∧ pt [a, b, c, d] 1 = b.2 ∧ pt [a, b, c, d] 2 = c.2 ∧ pt [a, b, c, d] 3 = d.2 ∧ pt [a, b, c, d] 4 = a.2 ∧ pt [a, b, c, d] 5 = b.2 := ⟨by simp [pt], by simp [pt], by simp [pt], by simp [pt], by simp [pt], by simp [pt]⟩
theorem simp4 {a b c d : Zp} (h0 : tn a.2 b.2 c.2 ≠ 0) (h1 : tn b.2 c.2 d.2 ≠ 0) (h2 : tn c.2 d.2 a.2 ≠ 0) (h3 : tn d.2 a.2 b.2 ≠ 0) (g1 : Apart2 a.2 b.2 c.2 d.2) (g2 : Apart2 b.2 c.2 d.2 a.2) : Simp [a, b, c, d] := by
  obtain ⟨p0, p1, p2, p3, p4, p5⟩ := pt4 a b c d
  refine ⟨fun i hi => ?_, fun i hi => ?_, fun i j hij hj hn => ?_⟩
  · rcases (show i = 0 ∨ i = 1 ∨ i = 2 ∨ i = 3 by simp at hi; omega) with rfl | rfl | rfl | rfl
    · rw [p0, p1]; exact tn_ne1 h0
    · rw [p1, p2]; exact tn_ne1 h1
    · rw [p2, p3]; exact tn_ne1 h2
    · rw [p3, p4]; exact tn_ne1 h3
  · rcases (show i = 0 ∨ i = 1 ∨ i = 2 ∨ i = 3 by simp at hi; omega) with rfl | rfl | rfl | rfl
    · rw [p0, p1, p2]; exact tri_adj h0
    · rw [p1, p2, p3]; exact tri_adj h1
    · rw [p2, p3, p4]; exact tri_adj h2
    · rw [p3, p4, p5]; exact tri_adj h3
  · rcases (show (i = 0 ∧ j = 2) ∨ (i = 1 ∧ j = 3) by simp at hj hn; omega) with ⟨rfl, rfl⟩ | ⟨rfl, rfl⟩
    · rw [p0, p1, p2, p3]; exact g1
    · rw [p1, p2, p3, p4]; exact g2
section
variable {x y w h : Int} {p0 p1 p2 p3 p4 : Addr}
theorem ring_rect (hw : 0 < w) (hh : 0 < h) : RingOk [(p0, x, y), (p1, x + w, y), (p2, x + w, y + h), (p3, x, y + h)] := by
  have m := Int.mul_pos hw hh
  have t1 : tn (x, y) (x + w, y) (x + w, y + h) = w * h := by unfold tn turnI; grind
  have t2 : tn (x + w, y) (x + w, y + h) (x, y + h) = w * h := by unfold tn turnI; grind
  have t3 : tn (x + w, y + h) (x, y + h) (x, y) = w * h := by unfold tn turnI; grind
  have t4 : tn (x, y + h) (x, y) (x + w, y) = w * h := by unfold tn turnI; grind
  have u1 : tn (x, y) (x + w, y) (x, y + h) = w * h := by unfold tn turnI; grind
  have u2 : tn (x + w, y) (x + w, y + h) (x, y) = w * h := by unfold tn turnI; grind
  refine ⟨by simp, by simp, simp4 (by dsimp only; omega) (by dsimp only; omega) (by dsimp only; omega) (by dsimp only; omega) (apart_side (by dsimp only; omega)) (apart_side (by dsimp only; omega)), ?_, ?_⟩
  · have e : around [(p0, x, y), (p1, x + w, y), (p2, x + w, y + h), (p3, x, y + h)] = w * h + w * h := by
      show cr _ _ + (cr _ _ + (cr _ _ + (cr _ _ + 0))) = _
      unfold cr; grind
    omega
  · intro z hz
    rw [(pt4 _ _ _ _).1]
    simp only [List.mem_cons, List.not_mem_nil, or_false] at hz
    rcases hz with rfl | rfl | rfl | rfl <;> exact lt_no.mpr (by dsimp only; omega)
end
/-! ## shapes and things at addresses -/
inductive ShpAt (K : PySem.W.Frag) (H : Hp) : Addr → Str → Prop where
  | pt {a p : Addr} {x y : Int} (h : SqT K H a [.str "point", .ref p]) (hp : SqT K H p [.int x, .int y]) (o : On x y) : ShpAt K H a "point"
  | ln {a l : Addr} {zs : List Zp} (h : SqT K H a [.str "line", .ref l]) (hl : LnAt K H l zs) (ok : LnOk zs) : ShpAt K H a "line"
  | ar {a r : Addr} {rs : List (Addr × List Zp)} (h : SqT K H a [.str "area", .ref r]) (hr : SqT K H r (rs.map fun q => V.ref q.1)) (hl : ∀ q ∈ rs, LnAt K H q.1 q.2) (ok : ∀ q ∈ rs, RingOk q.2) (l1 : 1 ≤ rs.length) (l2 : rs.length ≤ 6) : ShpAt K H a "area"
section
variable {K : PySem.W.Frag} {H H' : Hp} {s b a D : Addr} {w : Str} {o : HO}
theorem ShpAt.same (e : Same H H') (h : ShpAt K H a w) : ShpAt K H' a w := by
  cases h with
  | pt h hp o => exact .pt (tSame e h) (tSame e hp) o
  | ln h hl ok => exact .ln (tSame e h) (hl.same e) ok
  | ar h hr hl ok l1 l2 => exact .ar (tSame e h) (tSame e hr) (fun q hq => (hl q hq).same e) ok l1 l2
theorem ShpAt.but (e : But s H H') (S : Strm H s b) (h : ShpAt K H a w) : ShpAt K H' a w := by
  cases h with
  | pt h hp o => exact .pt (tButS e S h) (tButS e S hp) o
  | ln h hl ok => exact .ln (tButS e S h) (hl.but e S) ok
  | ar h hr hl ok l1 l2 => exact .ar (tButS e S h) (tButS e S hr) (fun q hq => (hl q hq).but e S) ok l1 l2
theorem LnAt.put {zs : List Zp} (n : ∃ ys, H D = some (.lst ys)) (h : LnAt K H a zs) : LnAt K (upd H D o) a zs := ⟨tAt n h.t, h.p.at n, h.on⟩
theorem ShpAt.put (n : ∃ ys, H D = some (.lst ys)) (h : ShpAt K H a w) : ShpAt K (upd H D o) a w := by
  cases h with
  | pt h hp o => exact .pt (tAt n h) (tAt n hp) o
  | ln h hl ok => exact .ln (tAt n h) (hl.put n) ok
  | ar h hr hl ok l1 l2 => exact .ar (tAt n h) (tAt n hr) (fun q hq => (hl q hq).put n) ok l1 l2
/-- a thing: where it stands, its name, its kind, the word of its shape -/
abbrev Th := Addr × Str × Str × Str
def ThAt (K : PySem.W.Frag) (H : Hp) (t : Th) : Prop := ∃ sh, SqT K H t.1 [.str t.2.1, .str t.2.2.1, .ref sh] ∧ ShpAt K H sh t.2.2.2 ∧ nameB t.2.1 = true ∧ nameB t.2.2.1 = true ∧ t.2.1.length ≤ 100 ∧ t.2.2.1.length ≤ 100
theorem ThAt.same {t : Th} (e : Same H H') (h : ThAt K H t) : ThAt K H' t := by
  obtain ⟨sh, h1, h2, h3⟩ := h
  exact ⟨sh, tSame e h1, h2.same e, h3⟩
theorem ThAt.but {t : Th} (e : But s H H') (S : Strm H s b) (h : ThAt K H t) : ThAt K H' t := by
  obtain ⟨sh, h1, h2, h3⟩ := h
  exact ⟨sh, tButS e S h1, h2.but e S, h3⟩
theorem ThAt.put {t : Th} (n : ∃ ys, H D = some (.lst ys)) (h : ThAt K H t) : ThAt K (upd H D o) t := by
  obtain ⟨sh, h1, h2, h3⟩ := h
  exact ⟨sh, tAt n h1, h2.put n, h3⟩
/-- a map: its things in the order of their names -/
structure MpAt (K : PySem.W.Frag) (H : Hp) (a : Addr) (ts : List Th) : Prop where
  t : SqT K H a (ts.map fun t => V.ref t.1)
  th : ∀ t ∈ ts, ThAt K H t
  len : ts.length ≤ 60
theorem MpAt.same {ts : List Th} (e : Same H H') (h : MpAt K H a ts) : MpAt K H' a ts := ⟨tSame e h.t, fun t ht => (h.th t ht).same e, h.len⟩
theorem MpAt.but {ts : List Th} (e : But s H H') (S : Strm H s b) (h : MpAt K H a ts) : MpAt K H' a ts := ⟨tButS e S h.t, fun t ht => (h.th t ht).but e S, h.len⟩
end
end My
namespace My
open PySem PySem.Spec PyProof.Rows L2
section
variable {P : Program} {w : World} {K : PySem.W.Frag} {mg : Str → Option Value} {base : Heap}
/-- as FunT.ok, for a def that may raise -/
theorem FunT.okX {x qual : Str} {st : Stmt} {f c : Addr} {fd : FuncData} {N ps : List Str} {k : Nat} {sp : Sp} (F : FunT K x qual st f fd c) (S : FnScope N ps (defScope st)) (len : ∀ vs H Q E, sp vs H Q E → vs.length = ps.length)
    (hbody : ∀ (A : Around) (outer : List Env) (s : Shared) (H : Hp) (vs : List V) (Q : VK) (E : XK), Room k (A.deeper (envOfC qual (defScope st) s.heap.objs.size f (.ref c))) → sp vs H Q E →
      ∃ t, PSs (cxOf (L2.CX P w) P w K mg base N qual (defScope st) f (.ref c) A outer s H E) (defBody st) t ∧ t { nx := fun _ H' => Q .non H', rt := Q } (start N vs) H) : FnOk P w K mg base (L2.CX P w) (k + 1) f fd ps sp := by
  obtain ⟨oc, od, kV, doc, pm, an, ct, osl, rfl, lk, hcd⟩ := F.ex
  exact fn_of lk hcd S len fun A outer s H vs Q E hr hsp => hbody A outer s H vs Q E hr hsp
end
end My
namespace My
open PySem L2
/-! ## what is refused by its name (k17) -/
section
variable {K : PySem.W.Frag} {H H' : Hp} {x y : V} {b : Bool}
theorem coordB_good {u : V} (h : coordB u = true) : ∃ i : Int, u = .int i ∧ -1000 ≤ i ∧ i ≤ 1000 := by
  cases u with
  | int i =>
    have h : (decide (-1000 ≤ i) && decide (i ≤ 1000)) = true := h
    rw [Bool.and_eq_true, decide_eq_true_eq, decide_eq_true_eq] at h
    exact ⟨i, rfl, h⟩
  | _ => exact Bool.noConfusion h
theorem pointB_good {xs : List V} (h : pointB xs = true) : ∃ i j : Int, xs = [.int i, .int j] ∧ On i j := by
  match xs, h with
  | [u, v], h =>
    have h : (coordB u && coordB v) = true := h
    rw [Bool.and_eq_true] at h
    obtain ⟨i, rfl, a1, a2⟩ := coordB_good h.1
    obtain ⟨j, rfl, b1, b2⟩ := coordB_good h.2
    exact ⟨i, j, rfl, a1, a2, b1, b2⟩
theorem PV.get (h : PV K H x true) : ∃ (a : Addr) (p : Pt), x = .ref a ∧ SqT K H a [.int p.1, .int p.2] ∧ On p.1 p.2 := by
  obtain ⟨n, t, h1, h2⟩ := h
  by_cases e : n = "tuple"
  · obtain ⟨a, xs, rfl, ht, _, eb⟩ := h1 e
    obtain ⟨i, j, rfl, o⟩ := pointB_good eb.symm
    exact ⟨a, (i, j), rfl, ht, o⟩
  · exact absurd (h2 e) (by simp)
theorem SgV.get (h : SgV K H x true) : ∃ (g a c : Addr) (ax ay bx dy : Int), x = .ref g ∧ SegAt K H g a c ax ay bx dy := by
  obtain ⟨n, t, h1, h2⟩ := h
  by_cases e : n = "tuple"
  · obtain ⟨g, xs, rfl, ht, hc⟩ := h1 e
    rcases hc with ⟨_, z⟩ | ⟨u, v, c, d, rfl, hu, hv, hc⟩
    · cases z
    · rcases hc with ⟨_, z⟩ | ⟨_, _, i, j, ax, ay, bx, dy, rfl, rfl, hi, hj, oa, oc, lt⟩
      · cases z
      · exact ⟨g, i, j, ax, ay, bx, dy, rfl, ht, hi, hj, oa, oc, lt.symm⟩
  · exact absurd (h2 e) (by simp)
theorem pts_get : ∀ {xs : List V}, (∀ v ∈ xs, PV K H v true) → ∃ zs : List Zp, xs = refs zs ∧ Pts K H zs ∧ ∀ z ∈ zs, On z.2.1 z.2.2
  | [], _ => ⟨[], rfl, Pts.nil, fun z h => by cases h⟩
  | v :: xs, h => by
    obtain ⟨zs, e, hp, ho⟩ := pts_get (xs := xs) fun w hw => h w (List.mem_cons_of_mem _ hw)
    obtain ⟨a, p, rfl, ht, o⟩ := (h v List.mem_cons_self).get
    refine ⟨(a, p) :: zs, by rw [e]; rfl, fun z hz => ?_, fun z hz => ?_⟩
    · rcases List.mem_cons.mp hz with rfl | hz
      · exact ht
      · exact hp z hz
    · rcases List.mem_cons.mp hz with rfl | hz
      · exact o
      · exact ho z hz
theorem AV.get {lo hi : Int} (h : AV K lo hi H x true) : ∃ (a : Addr) (zs : List Zp), x = .ref a ∧ LnAt K H a zs ∧ lo ≤ (zs.length : Int) ∧ (zs.length : Int) ≤ hi := by
  obtain ⟨n, t, h1, h2⟩ := h
  by_cases e : n = "tuple"
  · obtain ⟨a, xs, bs, rfl, ht, l1, lb, hb, eb⟩ := h1 e
    have eb := eb.symm
    rw [Bool.and_eq_true, Bool.and_eq_true, decide_eq_true_eq, decide_eq_true_eq] at eb
    obtain ⟨zs, rfl, hp, ho⟩ := pts_get (K := K) (H := H) (xs := xs) fun v hv => by
      obtain ⟨i, hi⟩ := List.mem_iff_getElem?.mp hv
      have li := (List.getElem?_eq_some_iff.mp hi).1
      obtain ⟨c, hc⟩ : ∃ c, bs[i]? = some c := ⟨_, List.getElem?_eq_getElem (by omega)⟩
      have ec : c = true := (List.all_eq_true.mp eb.2) c (List.mem_of_getElem? hc)
      rw [← ec]
      exact hb i v c hi hc
    have lz : (refs zs).length = zs.length := List.length_map _
    rw [lz] at eb
    exact ⟨a, zs, rfl, ⟨ht, hp, ho⟩, eb.1.1, eb.1.2⟩
  · exact absurd (h2 e) (by simp)
theorem LnV.get (h : LnV K H x true) : ∃ (a : Addr) (zs : List Zp), x = .ref a ∧ LnAt K H a zs ∧ LnOk zs := by
  rcases h with ⟨a, zs, rfl, ha, _, h⟩ | ⟨_, h⟩
  · exact ⟨a, zs, rfl, ha, h.mp rfl⟩
  · cases h
theorem AV.no {lo hi : Int} {n : String} (h : Ty K H x n) (hn : n ≠ "tuple") : AV K lo hi H x false := ⟨n, h, fun q => absurd q hn, fun _ => rfl⟩
def GaV (K : PySem.W.Frag) (H : Hp) (x : V) (b : Bool) : Prop := (∃ (a : Addr) (zs : List Zp), x = .ref a ∧ (b = true → TN H a (refs zs)) ∧ LnAt K H a zs ∧ zs.length ≤ 1000 ∧ (b = true ↔ 3 ≤ zs.length ∧ zs.length ≤ 40 ∧ Simp zs)) ∨ (AV K 3 40 H x false ∧ b = false)
def RgV (K : PySem.W.Frag) (H : Hp) (x : V) (b : Bool) : Prop := (∃ (a : Addr) (zs : List Zp), x = .ref a ∧ LnAt K H a zs ∧ zs.length ≤ 1000 ∧ (b = true ↔ RingOk zs)) ∨ (AV K 3 40 H x false ∧ b = false)
theorem GaV.same (e : Same H H') (h : GaV K H x b) : GaV K H' x b := by
  rcases h with ⟨a, zs, rfl, hn, ha, l, h⟩ | ⟨h, z⟩
  · exact .inl ⟨a, zs, rfl, (fun z => (hn z).same e), ha.same e, l, h⟩
  · exact .inr ⟨h.same e, z⟩
theorem RgV.same (e : Same H H') (h : RgV K H x b) : RgV K H' x b := by
  rcases h with ⟨a, zs, rfl, ha, l, h⟩ | ⟨h, z⟩
  · exact .inl ⟨a, zs, rfl, ha.same e, l, h⟩
  · exact .inr ⟨h.same e, z⟩
theorem SgV.same (e : Same H H') (h : SgV K H x b) : SgV K H' x b := by
  obtain ⟨n, t, h1, h2⟩ := h
  refine ⟨n, t.same e, fun q => ?_, h2⟩
  obtain ⟨g, xs, rfl, ht, hc⟩ := h1 q
  refine ⟨g, xs, rfl, tSame e ht, hc.imp id ?_⟩
  rintro ⟨u, v, c, d, rfl, hu, hv, hc⟩
  refine ⟨u, v, c, d, rfl, hu.same e, hv.same e, hc.imp id ?_⟩
  rintro ⟨e1, e2, i, j, ax, ay, bx, dy, rfl, rfl, hi, hj, z⟩
  exact ⟨e1, e2, i, j, ax, ay, bx, dy, rfl, rfl, tSame e hi, tSame e hj, z⟩
end
def nm1 (b : Bool) (n : Str) : Str := if b = true then "" else n
def nm2 (b c : Bool) (n m : Str) : Str := if b = true then nm1 c m else n
def nm3 (b c d : Bool) (n m k : Str) : Str := if b = true then nm2 c d m k else n
abbrev Kd := Hp → V → Bool → Prop
def R1 (R : Kd) (n : Str) (H : Hp) (vs : List V) (e : Str) : Prop := ∃ x b, vs = [x] ∧ R H x b ∧ e = nm1 b n
def R2 (R S : Kd) (n m : Str) (H : Hp) (vs : List V) (e : Str) : Prop := ∃ x y b c, vs = [x, y] ∧ R H x b ∧ S H y c ∧ e = nm2 b c n m
def R3 (R S U : Kd) (n m k : Str) (H : Hp) (vs : List V) (e : Str) : Prop := ∃ x y z b c d, vs = [x, y, z] ∧ R H x b ∧ S H y c ∧ U H z d ∧ e = nm3 b c d n m k
def RowF (K : PySem.W.Frag) (H : Hp) : Nat → List V → Str → Prop
  | 0 => R3 (PV K) (PV K) (PV K) "a" "b" "c" H
  | 1 => R2 (PV K) (SgV K) "p" "segment" H
  | 2 => R2 (PV K) (SgV K) "p" "segment" H
  | 3 => R2 (PV K) (SgV K) "p" "segment" H
  | 4 => R2 (PV K) (LnV K) "p" "line" H
  | 5 => R2 (SgV K) (SgV K) "first" "second" H
  | 6 => R1 (GaV K) "points" H
  | 7 => R1 (AV K 3 40) "points" H
  | 8 => R2 (PV K) (RgV K) "p" "ring" H
  | 9 => R1 (AV K 1 60) "points" H
  | 10 => R1 (AV K 1 60) "points" H
  | _ => fun _ _ => False
end My
namespace My
open PySem L2
/-! ## facts that stand through draws, and while lists grow -/
def ButM (M : List Addr) (s : Addr) (H H' : Hp) : Prop := ∀ b o, b ≠ s → b ∉ M → H b = some o → Std H' b o
def Sta (M : List Addr) (s : Addr) (H : Hp) (φ : Hp → Prop) : Prop := ∀ H', ButM M s H H' → φ H'
section
variable {K : PySem.W.Frag} {s p g a D : Addr} {H H' : Hp} {φ ψ χ : Hp → Prop} {xs : List V} {v : V} {M : List Addr} {o : HO}
theorem ButM.get {u : HO} (e : ButM M s H H') (h1 : a ≠ s) (h2 : a ∉ M) (h : H a = some u) (n : NT u := by intro _ z; cases z) : H' a = some u := (e a u h1 h2 h).nt n
theorem Sta.but (h : Sta M s H φ) (e : But s H H') : Sta M s H' φ := fun H2 q => h H2 fun b o h1 h2 h3 => (e b o h1 h3).next fun u k => q b u h1 h2 k
theorem Sta.same (h : Sta M s H φ) (e : Same H H') : Sta M s H' φ := h.but (But.of_same e)
theorem Sta.here (h : Sta M s H φ) : φ H := h H fun _ _ _ _ h => .inl h
theorem Sta.map (h : Sta M s H φ) (f : ∀ H', φ H' → ψ H') : Sta M s H ψ := fun H' q => f H' (h H' q)
theorem Sta.of (h : ∀ H', φ H') : Sta M s H φ := fun H' _ => h H'
theorem Sta.ext (h : Sta M s H φ) (n : H D = none) : Sta (D :: M) s H φ := fun H2 q => h H2 fun b o h1 h2 h3 => q b o h1 (fun z => by
  rcases List.mem_cons.mp z with z | z
  · rw [z, n] at h3; cases h3
  · exact h2 z) h3
theorem Sta.put (h : Sta M s H φ) (n : D ∈ M) : Sta M s (upd H D o) φ := fun H2 q => h H2 fun b u h1 h2 h3 => q b u h1 h2 (by
  rw [upd_ne (fun z => h2 (by rw [z]; exact n))]; exact h3)
theorem ButM.refl : ButM M s H H := fun _ _ _ _ h => .inl h
theorem ButM.trans {H2 : Hp} (a : ButM M s H H') (b : ButM M s H' H2) : ButM M s H H2 := fun c o h1 h2 h3 => (a c o h1 h2 h3).next fun u k => b c u h1 h2 k
theorem ButM.same {H2 : Hp} (a : ButM M s H H') (e : Same H' H2) : ButM M s H H2 := a.trans fun c o _ _ h => e c o h
theorem ButM.putE {H2 : Hp} (a : ButM M s H H') (n : D ∈ M) (e : H2 = upd H' D o) : ButM M s H H2 := by
  subst e
  exact a.trans fun c u _ h2 h => .inl (by rw [upd_ne (fun z => h2 (by rw [z]; exact n))]; exact h)
theorem Sta.butM (h : Sta M s H φ) (e : ButM M s H H') : Sta M s H' φ := fun H2 q => h H2 (e.trans q)
theorem Sta.putE {H2 : Hp} (h : Sta M s H φ) (n : D ∈ M) (e : H2 = upd H D o) : Sta M s H2 φ := by
  subst e
  exact h.put n
theorem Sta.tup (S : Strm H s p) (hM : ∀ D ∈ M, Lst H D) (w : SqT K H g xs) : Sta M s H (fun H => SqT K H g xs) := fun H' q => by
  have ne : ∀ {b : Addr} {u : HO}, (∀ ys, u ≠ .lst ys) → H b = some u → b ≠ s ∧ b ∉ M := fun {b u} nl h => by
    refine ⟨fun z => ?_, fun z => ?_⟩
    · obtain ⟨ys, hy⟩ := S.lst
      rw [z, hy] at h
      exact nl ys (Option.some.inj h).symm
    · obtain ⟨ys, hy⟩ := hM b z
      rw [hy] at h
      exact nl ys (Option.some.inj h).symm
  rcases w with (h | ⟨o, h⟩) | h
  · have n := ne (by intro ys z; cases z) h
    exact .inl (.inl (q.get n.1 n.2 h))
  · have n := ne (by intro ys z; cases z) h
    exact .inl (.inr ⟨o, q.get n.1 n.2 h⟩)
  · exact .inr h
theorem Sta.tn (S : Strm H s p) (hM : ∀ D ∈ M, Lst H D) (w : TN H g xs) : Sta M s H (fun H => TN H g xs) := fun H' q => by
  obtain ⟨o, h, d⟩ := w
  refine ⟨o, q.get (fun z => ?_) (fun z => ?_) h, d⟩
  · obtain ⟨ys, hy⟩ := S.lst
    rw [z, hy] at h; cases h
  · obtain ⟨ys, hy⟩ := hM g z
    rw [hy] at h; cases h
theorem Sta.lst (n : g ≠ s) (m : g ∉ M) (w : H g = some (.lst xs)) : Sta M s H (fun H => H g = some (.lst xs)) := fun H' q => q.get n m w
theorem AV.bad {lo hi : Int} {us ws : List Zp} (h : SqT K H a (refs us ++ v :: refs ws)) (pu : Pts K H us) (ou : ∀ z ∈ us, On z.2.1 z.2.2) (pw : Pts K H ws) (ow : ∀ z ∈ ws, On z.2.1 z.2.2) (hv : PV K H v false) (h2 : us.length + ws.length ≤ 900) : AV K lo hi H (.ref a) false := by
  refine ⟨_, .tup h, fun _ => ⟨_, _, List.replicate us.length true ++ false :: List.replicate ws.length true, rfl, h, by simp; omega, by simp, fun i v' c e1 e2 => ?_, by simp⟩, fun z => absurd rfl z⟩
  have good : ∀ {zs : List Zp} {j : Nat}, Pts K H zs → (∀ z ∈ zs, On z.2.1 z.2.2) → (refs zs)[j]? = some v' → (List.replicate zs.length true)[j]? = some c → PV K H v' c := by
    intro zs j hp ho f1 f2
    rw [List.getElem?_map] at f1
    obtain ⟨z, f3, rfl⟩ := Option.map_eq_some_iff.mp f1
    have hm := List.mem_of_getElem? f3
    rw [List.getElem?_replicate] at f2
    split at f2
    · injection f2 with f2
      subst f2
      exact .pt (hp z hm) (ho z hm)
    · cases f2
  by_cases q : i < us.length
  · rw [List.getElem?_append_left (by simpa using q)] at e1
    rw [List.getElem?_append_left (by simpa using q)] at e2
    exact good pu ou e1 e2
  · rw [List.getElem?_append_right (by simp; omega)] at e1
    rw [List.getElem?_append_right (by simp; omega)] at e2
    rw [List.length_map] at e1
    rw [List.length_replicate] at e2
    cases hi : i - us.length with
    | zero =>
      rw [hi] at e1 e2
      injection e1 with e1
      injection e2 with e2
      subst e1 e2
      exact hv
    | succ k =>
      rw [hi, List.getElem?_cons_succ] at e1 e2
      exact good pw ow e1 e2
theorem AV.ln {lo hi : Int} {zs : List Zp} {c : Bool} (h : LnAt K H a zs) (hz : zs.length ≤ 1000) (e : (decide (lo ≤ (zs.length : Int)) && decide ((zs.length : Int) ≤ hi)) = c) : AV K lo hi H (.ref a) c := by
  rw [← e]
  exact h.av hz
end
/-- two points in turn -/
theorem alt_get {u w : Zp} : ∀ (n i : Nat), ((List.replicate n [u, w]).flatten)[i]? = if i < 2 * n then some (if i % 2 = 0 then u else w) else none
  | 0, i => by simp
  | n + 1, i => by
    rw [List.replicate_succ, List.flatten_cons]
    match i with
    | 0 => simp
    | 1 => simp; omega
    | i + 2 =>
      have ih := alt_get (u := u) (w := w) n i
      show ((List.replicate n [u, w]).flatten)[i]? = _
      rw [ih]
      by_cases c : i < 2 * n <;> by_cases d : i % 2 = 0
      · rw [if_pos c, if_pos d, if_pos (by omega), if_pos (by omega)]
      · rw [if_pos c, if_neg d, if_pos (by omega), if_neg (by omega)]
      · rw [if_neg c, if_neg (by omega)]
      · rw [if_neg c, if_neg (by omega)]
theorem alt_len {u w : Zp} (n : Nat) : ((List.replicate n [u, w]).flatten).length = 2 * n := by
  induction n with
  | zero => rfl
  | succ n ih => rw [List.replicate_succ, List.flatten_cons, List.length_append, ih]; show 2 + 2 * n = _; omega
theorem alt_mem {u w z : Zp} {n : Nat} (h : z ∈ (List.replicate n [u, w]).flatten) : z = u ∨ z = w := by
  obtain ⟨l, h1, h2⟩ := List.mem_flatten.mp h
  rw [List.eq_of_mem_replicate h1] at h2
  simpa using h2
theorem alt_refs {u w : Zp} (n : Nat) : refs ((List.replicate n [u, w]).flatten) = (List.replicate n [V.ref u.1, V.ref w.1]).flatten := by
  induction n with
  | zero => rfl
  | succ n ih =>
    rw [List.replicate_succ, List.flatten_cons, List.replicate_succ, List.flatten_cons, ← ih]
    exact List.map_append
theorem alt_ne {u w : Zp} {n : Nat} (h : ¬ (u.2.1 = w.2.1 ∧ u.2.2 = w.2.2)) : Ne ((List.replicate n [u, w]).flatten) := fun i x y h1 h2 => by
  rw [alt_get] at h1 h2
  split at h1
  · split at h2
    · have h1 := Option.some.inj h1
      have h2 := Option.some.inj h2
      by_cases c : i % 2 = 0
      · rw [if_pos c] at h1
        rw [if_neg (by omega)] at h2
        subst h1 h2
        exact h
      · rw [if_neg c] at h1
        rw [if_pos (by omega)] at h2
        subst h1 h2
        exact fun z => h ⟨z.1.symm, z.2.symm⟩
    · cases h2
  · cases h1
theorem one_rep {u : Zp} : ∀ n : Nat, refs (List.replicate n u) = (List.replicate n [V.ref u.1]).flatten
  | 0 => rfl
  | n + 1 => by
    rw [List.replicate_succ, List.replicate_succ, List.flatten_cons, ← one_rep n]; rfl
/-! ## the rows of the law -/
def namesOf : Nat → List Str
  | 0 => ["a", "b", "c"]
  | 1 => ["p", "segment"]
  | 2 => ["p", "segment"]
  | 3 => ["p", "segment"]
  | 4 => ["p", "line"]
  | 5 => ["first", "second"]
  | 6 => ["points"]
  | 7 => ["points"]
  | 8 => ["p", "ring"]
  | 9 => ["points"]
  | 10 => ["points"]
  | _ => []
structure RowAt (K : PySem.W.Frag) (H : Hp) (w : Nat) (r : Addr) (ns gs bs : Addr) (gv bv : List V) : Prop where
  r : H r = some (.lst [.ref ns, .ref gs, .ref bs])
  n : H ns = some (.lst ((namesOf w).map V.str))
  g : H gs = some (.lst gv)
  b : H bs = some (.lst bv)
  lg : gv.length = (namesOf w).length
  lb : bv.length = (namesOf w).length
  good : RowF K H w gv ""
  bad : ∀ (i : Nat) nm, (namesOf w)[i]? = some nm → RowF K H w (gv.take i ++ bv.drop i) nm
def RowS (K : PySem.W.Frag) (H : Hp) (w : Nat) (x : V) : Prop := ∃ r ns gs bs gv bv, x = .ref r ∧ RowAt K H w r ns gs bs gv bv
section
variable {K : PySem.W.Frag} {H : Hp} {w : Nat} {r ns gs bs : Addr} {x y z x' y' z' : V} {R S U : Kd} {n m k : Str}
theorem row1 (hF : RowF K H w = R1 R n H) (hn : namesOf w = [n]) (h0 : H r = some (.lst [.ref ns, .ref gs, .ref bs])) (h1 : H ns = some (.lst [.str n])) (h2 : H gs = some (.lst [x])) (h3 : H bs = some (.lst [x'])) (a : R H x true) (a' : R H x' false) : RowS K H w (.ref r) := by
  refine ⟨r, ns, gs, bs, [x], [x'], rfl, h0, by rw [hn]; exact h1, h2, h3, by rw [hn]; rfl, by rw [hn]; rfl, by rw [hF]; exact ⟨x, true, rfl, a, rfl⟩, fun i nm hi => ?_⟩
  rw [hn] at hi
  rw [hF]
  match i, hi with
  | 0, hi => cases hi; exact ⟨x', false, rfl, a', rfl⟩
theorem row2 (hF : RowF K H w = R2 R S n m H) (hn : namesOf w = [n, m]) (h0 : H r = some (.lst [.ref ns, .ref gs, .ref bs])) (h1 : H ns = some (.lst [.str n, .str m])) (h2 : H gs = some (.lst [x, y])) (h3 : H bs = some (.lst [x', y'])) (a : R H x true) (b : S H y true) (a' : R H x' false) (b' : S H y' false) : RowS K H w (.ref r) := by
  refine ⟨r, ns, gs, bs, [x, y], [x', y'], rfl, h0, by rw [hn]; exact h1, h2, h3, by rw [hn]; rfl, by rw [hn]; rfl, by rw [hF]; exact ⟨x, y, true, true, rfl, a, b, rfl⟩, fun i nm hi => ?_⟩
  rw [hn] at hi
  rw [hF]
  match i, hi with
  | 0, hi => cases hi; exact ⟨x', y', false, false, rfl, a', b', rfl⟩
  | 1, hi => cases hi; exact ⟨x, y', true, false, rfl, a, b', rfl⟩
theorem row3 (hF : RowF K H w = R3 R S U n m k H) (hn : namesOf w = [n, m, k]) (h0 : H r = some (.lst [.ref ns, .ref gs, .ref bs])) (h1 : H ns = some (.lst [.str n, .str m, .str k])) (h2 : H gs = some (.lst [x, y, z])) (h3 : H bs = some (.lst [x', y', z'])) (a : R H x true) (b : S H y true) (c : U H z true) (a' : R H x' false) (b' : S H y' false) (c' : U H z' false) : RowS K H w (.ref r) := by
  refine ⟨r, ns, gs, bs, [x, y, z], [x', y', z'], rfl, h0, by rw [hn]; exact h1, h2, h3, by rw [hn]; rfl, by rw [hn]; rfl, by rw [hF]; exact ⟨x, y, z, true, true, true, rfl, a, b, c, rfl⟩, fun i nm hi => ?_⟩
  rw [hn] at hi
  rw [hF]
  match i, hi with
  | 0, hi => cases hi; exact ⟨x', y', z', false, false, false, rfl, a', b', c', rfl⟩
  | 1, hi => cases hi; exact ⟨x, y', z', true, false, false, rfl, a, b', c', rfl⟩
  | 2, hi => cases hi; exact ⟨x, y, z', true, true, false, rfl, a, b, c', rfl⟩
end
/-! ## what is no ring -/
theorem bow_no {g1 g2 g3 g4 : Addr} (S : Simp [(g1, 0, 0), (g2, 4, 4), (g3, 4, 0), (g4, 0, 4)]) : False := by
  have h : Apart2 (0, 0) (4, 4) (4, 0) (0, 4) := S.apart 0 2 (by omega) (by show 2 < 4; omega) (by show ¬ (0 = 0 ∧ 2 + 1 = 4); omega)
  exact h.2.2.2.2 (by decide)
theorem flat_no {g1 g2 g3 : Addr} (S : Simp [(g1, 0, 0), (g2, 2, 0), (g3, 4, 0)]) : False := by
  have h := (S.adj 1 (by show 1 < 3; omega)).1
  rw [show pt [(g1, 0, 0), (g2, 2, 0), (g3, 4, 0)] 1 = (2, 0) from rfl, show pt [(g1, 0, 0), (g2, 2, 0), (g3, 4, 0)] (1 + 1) = (4, 0) from rfl, show pt [(g1, 0, 0), (g2, 2, 0), (g3, 4, 0)] (1 + 2) = (0, 0) from pt_add (zs := [(g1, 0, 0), (g2, 2, 0), (g3, 4, 0)]) 0] at h
  exact absurd h (by decide)
theorem twice_no {g g3 : Addr} {x y z u : Int} (S : Simp [(g, x, y), (g, x, y), (g3, z, u)]) : False := S.ne 0 (by show 0 < 3; omega) rfl
theorem back_no {g1 g2 g3 g4 : Addr} (R : RingOk [(g4, 0, 4), (g3, 4, 4), (g2, 4, 0), (g1, 0, 0)]) : False := by
  have h : (0 : Int) < -32 := R.pos
  exact absurd h (by decide)
theorem rot_no {g1 g2 g3 g4 : Addr} (R : RingOk [(g2, 4, 0), (g3, 4, 4), (g4, 0, 4), (g1, 0, 0)]) : False := by
  have h : lt (0, 0) (4, 0) = false := R.least (g1, 0, 0) (by simp)
  exact absurd h (by decide)
theorem sq_ring {g1 g2 g3 g4 : Addr} : RingOk [(g1, 0, 0), (g2, 4, 0), (g3, 4, 4), (g4, 0, 4)] := ring_rect (x := 0) (y := 0) (w := 4) (h := 4) (by decide) (by decide)
theorem rowS_two {K : PySem.W.Frag} {H : Hp} {x : V} (h : RowS K H 1 x) : RowS K H 2 x := by
  obtain ⟨r, ns, gs, bs, gv, bv, e, h⟩ := h
  exact ⟨r, ns, gs, bs, gv, bv, e, h.r, h.n, h.g, h.b, h.lg, h.lb, h.good, h.bad⟩
theorem rowS_three {K : PySem.W.Frag} {H : Hp} {x : V} (h : RowS K H 1 x) : RowS K H 3 x := by
  obtain ⟨r, ns, gs, bs, gv, bv, e, h⟩ := h
  exact ⟨r, ns, gs, bs, gv, bv, e, h.r, h.n, h.g, h.b, h.lg, h.lb, h.good, h.bad⟩
theorem rowS_ten {K : PySem.W.Frag} {H : Hp} {x : V} (h : RowS K H 9 x) : RowS K H 10 x := by
  obtain ⟨r, ns, gs, bs, gv, bv, e, h⟩ := h
  exact ⟨r, ns, gs, bs, gv, bv, e, h.r, h.n, h.g, h.b, h.lg, h.lb, h.good, h.bad⟩
theorem op_repTK {X : Cx} {K : PySem.W.Frag} (hK : X.K = K) : OpR X (binaryOp .Mult) (rRepT K) := by
  subst hK
  exact op_repT
theorem R1.same {R : Kd} {n : Str} {H H' : Hp} {vs : List V} {e : Str} (f : ∀ x b, R H x b → R H' x b) (h : R1 R n H vs e) : R1 R n H' vs e := by
  obtain ⟨x, b, e1, a, e2⟩ := h
  exact ⟨x, b, e1, f _ _ a, e2⟩
theorem R2.same {R S : Kd} {n m : Str} {H H' : Hp} {vs : List V} {e : Str} (f : ∀ x b, R H x b → R H' x b) (g : ∀ x b, S H x b → S H' x b) (h : R2 R S n m H vs e) : R2 R S n m H' vs e := by
  obtain ⟨x, y, b, c, e1, a, d, e2⟩ := h
  exact ⟨x, y, b, c, e1, f _ _ a, g _ _ d, e2⟩
theorem R3.same {R : Kd} {n m k : Str} {H H' : Hp} {vs : List V} {e : Str} (f : ∀ x b, R H x b → R H' x b) (h : R3 R R R n m k H vs e) : R3 R R R n m k H' vs e := by
  obtain ⟨x, y, z, b, c, d, e1, a1, a2, a3, e2⟩ := h
  exact ⟨x, y, z, b, c, d, e1, f _ _ a1, f _ _ a2, f _ _ a3, e2⟩
theorem RowF.same {K : PySem.W.Frag} {H H' : Hp} (s : Same H H') : ∀ {w : Nat} {vs : List V} {e : Str}, RowF K H w vs e → RowF K H' w vs e
  | 0, _, _, h => R3.same (fun _ _ z => z.same s) h
  | 1, _, _, h => R2.same (fun _ _ z => z.same s) (fun _ _ z => z.same s) h
  | 2, _, _, h => R2.same (fun _ _ z => z.same s) (fun _ _ z => z.same s) h
  | 3, _, _, h => R2.same (fun _ _ z => z.same s) (fun _ _ z => z.same s) h
  | 4, _, _, h => R2.same (fun _ _ z => z.same s) (fun _ _ z => z.same s) h
  | 5, _, _, h => R2.same (fun _ _ z => z.same s) (fun _ _ z => z.same s) h
  | 6, _, _, h => R1.same (fun _ _ z => z.same s) h
  | 7, _, _, h => R1.same (fun _ _ z => z.same s) h
  | 8, _, _, h => R2.same (fun _ _ z => z.same s) (fun _ _ z => z.same s) h
  | 9, _, _, h => R1.same (fun _ _ z => z.same s) h
  | 10, _, _, h => R1.same (fun _ _ z => z.same s) h
  | _ + 11, _, _, h => h.elim
theorem RowAt.same {K : PySem.W.Frag} {H H' : Hp} {w : Nat} {r ns gs bs : Addr} {gv bv : List V} (h : RowAt K H w r ns gs bs gv bv) (s : Same H H') : RowAt K H' w r ns gs bs gv bv :=
  ⟨s.get h.r, s.get h.n, s.get h.g, s.get h.b, h.lg, h.lb, h.good.same s, fun i nm e => (h.bad i nm e).same s⟩
theorem names_len (w : Nat) : (namesOf w).length ≤ 3 := by
  unfold namesOf
  split <;> decide
theorem two_of17 {α : Type} {xs : List α} (h : xs.length = 2) : ∃ a b, xs = [a, b] := by
  match xs, h with
  | [a, b], _ => exact ⟨a, b, rfl⟩
end My
namespace My
open PySem L2
/-! the steps of a reading -/
local macro_rules | `(tactic| walk_at "t") => `(tactic| first
  | assumption
  | exact tHere
  | exact lHere
  | (refine tOver (by assumption) ?_; walk_at "t")
  | (refine lOver (by assumption) ?_; walk_at "t")
  | (refine tSame (by assumption) ?_; walk_at "t")
  | (refine tBut (by assumption) (by assumption) ?_; walk_at "t"))
local macro_rules | `(tactic| walk_at "ix") => `(tactic| first | exact at0 | exact at1 | exact at2 | exact at3 | rfl)
local macro_rules | `(tactic| walk_at "r1") => `(tactic| first
  | refine ⟨_, rfl, ?_⟩
  | refine ⟨_, _, rfl, rfl, ?_⟩
  | refine ⟨rfl, ?_⟩
  | refine ⟨_, _, _, _, rfl, rfl, (by walk_at "t"), (by walk_at "ix"), ?_⟩
  | refine ⟨small rfl, ?_⟩)
local macro_rules | `(tactic| walk_at "r") => `(tactic| repeat walk_at "r1")
def top (i : Nat) : Stmt := PySem.Challenge.pw_trueatlas_k17_refusals_of_geometry.main.body.getD i (.Pass ⟨0, 0, 0, 0⟩)
abbrev s_is_whole : Stmt := (top 5)
abbrev N_is_whole : List Str := ["value"]
theorem sc_is_whole : FnScope N_is_whole ["value"] (defScope s_is_whole) := ⟨rfl, rfl, rfl, by decide +kernel, rfl, by decide +kernel, by decide +kernel⟩
abbrev s_is_pair : Stmt := (top 6)
abbrev N_is_pair : List Str := ["value"]
theorem sc_is_pair : FnScope N_is_pair ["value"] (defScope s_is_pair) := ⟨rfl, rfl, rfl, by decide +kernel, rfl, by decide +kernel, by decide +kernel⟩
abbrev s_need : Stmt := (top 7)
abbrev N_need : List Str := ["holds", "name"]
theorem sc_need : FnScope N_need ["holds", "name"] (defScope s_need) := ⟨rfl, rfl, rfl, by decide +kernel, rfl, by decide +kernel, by decide +kernel⟩
abbrev s_lowest : Stmt := (top 9)
abbrev N_lowest : List Str := ["n", "d", "common"]
theorem sc_lowest : FnScope N_lowest ["n", "d"] (defScope s_lowest) := ⟨rfl, rfl, rfl, by decide +kernel, rfl, by decide +kernel, by decide +kernel⟩
abbrev s_is_fraction : Stmt := (top 10)
abbrev N_is_fraction : List Str := ["value", "n", "d"]
theorem sc_is_fraction : FnScope N_is_fraction ["value"] (defScope s_is_fraction) := ⟨rfl, rfl, rfl, by decide +kernel, rfl, by decide +kernel, by decide +kernel⟩
abbrev s_need_both : Stmt := (top 11)
abbrev N_need_both : List Str := ["first", "second"]
theorem sc_need_both : FnScope N_need_both ["first", "second"] (defScope s_need_both) := ⟨rfl, rfl, rfl, by decide +kernel, rfl, by decide +kernel, by decide +kernel⟩
abbrev s_less : Stmt := (top 12)
abbrev N_less : List Str := ["first", "second"]
theorem sc_less : FnScope N_less ["first", "second"] (defScope s_less) := ⟨rfl, rfl, rfl, by decide +kernel, rfl, by decide +kernel, by decide +kernel⟩
abbrev s_is_coordinate : Stmt := (top 17)
abbrev N_is_coordinate : List Str := ["value"]
theorem sc_is_coordinate : FnScope N_is_coordinate ["value"] (defScope s_is_coordinate) := ⟨rfl, rfl, rfl, by decide +kernel, rfl, by decide +kernel, by decide +kernel⟩
abbrev s_is_point : Stmt := (top 18)
abbrev N_is_point : List Str := ["value"]
theorem sc_is_point : FnScope N_is_point ["value"] (defScope s_is_point) := ⟨rfl, rfl, rfl, by decide +kernel, rfl, by decide +kernel, by decide +kernel⟩
abbrev s_is_segment : Stmt := (top 19)
abbrev N_is_segment : List Str := ["value"]
theorem sc_is_segment : FnScope N_is_segment ["value"] (defScope s_is_segment) := ⟨rfl, rfl, rfl, by decide +kernel, rfl, by decide +kernel, by decide +kernel⟩
abbrev s_are_points : Stmt := (top 20)
abbrev N_are_points : List Str := ["value", "least", "most", "p"]
theorem sc_are_points : FnScope N_are_points ["value", "least", "most"] (defScope s_are_points) := ⟨rfl, rfl, rfl, by decide +kernel, rfl, by decide +kernel, by decide +kernel⟩
abbrev s_is_line : Stmt := (top 21)
abbrev N_is_line : List Str := ["value", "p", "q"]
theorem sc_is_line : FnScope N_is_line ["value"] (defScope s_is_line) := ⟨rfl, rfl, rfl, by decide +kernel, rfl, by decide +kernel, by decide +kernel⟩
abbrev s_joining : Stmt := (top 22)
abbrev N_joining : List Str := ["p", "q"]
theorem sc_joining : FnScope N_joining ["p", "q"] (defScope s_joining) := ⟨rfl, rfl, rfl, by decide +kernel, rfl, by decide +kernel, by decide +kernel⟩
abbrev s_edges_along : Stmt := (top 23)
abbrev N_edges_along : List Str := ["points", "p", "q"]
theorem sc_edges_along : FnScope N_edges_along ["points"] (defScope s_edges_along) := ⟨rfl, rfl, rfl, by decide +kernel, rfl, by decide +kernel, by decide +kernel⟩
abbrev s_turn_of : Stmt := (top 24)
abbrev N_turn_of : List Str := ["a", "b", "c"]
theorem sc_turn_of : FnScope N_turn_of ["a", "b", "c"] (defScope s_turn_of) := ⟨rfl, rfl, rfl, by decide +kernel, rfl, by decide +kernel, by decide +kernel⟩
abbrev s_is_on : Stmt := (top 25)
abbrev N_is_on : List Str := ["p", "segment", "a", "b"]
theorem sc_is_on : FnScope N_is_on ["p", "segment"] (defScope s_is_on) := ⟨rfl, rfl, rfl, by decide +kernel, rfl, by decide +kernel, by decide +kernel⟩
abbrev s_crosses_east : Stmt := (top 26)
abbrev N_crosses_east : List Str := ["p", "a", "b", "low", "high"]
theorem sc_crosses_east : FnScope N_crosses_east ["p", "a", "b"] (defScope s_crosses_east) := ⟨rfl, rfl, rfl, by decide +kernel, rfl, by decide +kernel, by decide +kernel⟩
abbrev s_foot_on : Stmt := (top 27)
abbrev N_foot_on : List Str := ["p", "segment", "a", "b", "wide", "high", "whole", "along"]
theorem sc_foot_on : FnScope N_foot_on ["p", "segment"] (defScope s_foot_on) := ⟨rfl, rfl, rfl, by decide +kernel, rfl, by decide +kernel, by decide +kernel⟩
abbrev s_gap_to : Stmt := (top 28)
abbrev N_gap_to : List Str := ["p", "segment", "a", "b", "n", "d", "x", "y"]
theorem sc_gap_to : FnScope N_gap_to ["p", "segment"] (defScope s_gap_to) := ⟨rfl, rfl, rfl, by decide +kernel, rfl, by decide +kernel, by decide +kernel⟩
abbrev s_turn : Stmt := (top 29)
abbrev N_turn : List Str := ["a", "b", "c"]
theorem sc_turn : FnScope N_turn ["a", "b", "c"] (defScope s_turn) := ⟨rfl, rfl, rfl, by decide +kernel, rfl, by decide +kernel, by decide +kernel⟩
abbrev s_lies_on : Stmt := (top 30)
abbrev N_lies_on : List Str := ["p", "segment"]
theorem sc_lies_on : FnScope N_lies_on ["p", "segment"] (defScope s_lies_on) := ⟨rfl, rfl, rfl, by decide +kernel, rfl, by decide +kernel, by decide +kernel⟩
abbrev s_foot_of : Stmt := (top 31)
abbrev N_foot_of : List Str := ["p", "segment"]
theorem sc_foot_of : FnScope N_foot_of ["p", "segment"] (defScope s_foot_of) := ⟨rfl, rfl, rfl, by decide +kernel, rfl, by decide +kernel, by decide +kernel⟩
abbrev s_gap_of : Stmt := (top 32)
abbrev N_gap_of : List Str := ["p", "segment"]
theorem sc_gap_of : FnScope N_gap_of ["p", "segment"] (defScope s_gap_of) := ⟨rfl, rfl, rfl, by decide +kernel, rfl, by decide +kernel, by decide +kernel⟩
abbrev s_nearest_edge : Stmt := (top 33)
abbrev N_nearest_edge : List Str := ["p", "line", "gaps", "best", "index", "gap", "edge"]
theorem sc_nearest_edge : FnScope N_nearest_edge ["p", "line"] (defScope s_nearest_edge) := ⟨rfl, rfl, rfl, by decide +kernel, rfl, by decide +kernel, by decide +kernel⟩
abbrev s_are_apart : Stmt := (top 35)
abbrev N_are_apart : List Str := ["first", "second", "a", "b", "c", "d"]
theorem sc_are_apart : FnScope N_are_apart ["first", "second"] (defScope s_are_apart) := ⟨rfl, rfl, rfl, by decide +kernel, rfl, by decide +kernel, by decide +kernel⟩
abbrev s_meeting_on_line : Stmt := (top 36)
abbrev N_meeting_on_line : List Str := ["first", "second", "low", "high"]
theorem sc_meeting_on_line : FnScope N_meeting_on_line ["first", "second"] (defScope s_meeting_on_line) := ⟨rfl, rfl, rfl, by decide +kernel, rfl, by decide +kernel, by decide +kernel⟩
abbrev s_common_end : Stmt := (top 37)
abbrev N_common_end : List Str := ["first", "second", "p"]
theorem sc_common_end : FnScope N_common_end ["first", "second"] (defScope s_common_end) := ⟨rfl, rfl, rfl, by decide +kernel, rfl, by decide +kernel, by decide +kernel⟩
abbrev s_cut_point : Stmt := (top 38)
abbrev N_cut_point : List Str := ["first", "before", "after", "a", "b", "whole"]
theorem sc_cut_point : FnScope N_cut_point ["first", "before", "after"] (defScope s_cut_point) := ⟨rfl, rfl, rfl, by decide +kernel, rfl, by decide +kernel, by decide +kernel⟩
abbrev s_meeting_of : Stmt := (top 39)
abbrev N_meeting_of : List Str := ["first", "second", "a", "b", "c", "d", "before", "after", "p", "x", "y"]
theorem sc_meeting_of : FnScope N_meeting_of ["first", "second"] (defScope s_meeting_of) := ⟨rfl, rfl, rfl, by decide +kernel, rfl, by decide +kernel, by decide +kernel⟩
abbrev s_meeting : Stmt := (top 40)
abbrev N_meeting : List Str := ["first", "second"]
theorem sc_meeting : FnScope N_meeting ["first", "second"] (defScope s_meeting) := ⟨rfl, rfl, rfl, by decide +kernel, rfl, by decide +kernel, by decide +kernel⟩
abbrev s_ways_around : Stmt := (top 45)
abbrev N_ways_around : List Str := ["points"]
theorem sc_ways_around : FnScope N_ways_around ["points"] (defScope s_ways_around) := ⟨rfl, rfl, rfl, by decide +kernel, rfl, by decide +kernel, by decide +kernel⟩
abbrev s_area_around : Stmt := (top 46)
abbrev N_area_around : List Str := ["points", "p", "q"]
theorem sc_area_around : FnScope N_area_around ["points"] (defScope s_area_around) := ⟨rfl, rfl, rfl, by decide +kernel, rfl, by decide +kernel, by decide +kernel⟩
abbrev s_do_follow : Stmt := (top 47)
abbrev N_do_follow : List Str := ["i", "j", "many"]
theorem sc_do_follow : FnScope N_do_follow ["i", "j", "many"] (defScope s_do_follow) := ⟨rfl, rfl, rfl, by decide +kernel, rfl, by decide +kernel, by decide +kernel⟩
abbrev s_is_simple : Stmt := (top 48)
abbrev N_is_simple : List Str := ["points", "edges", "many", "j", "i", "wanted", "p", "q"]
theorem sc_is_simple : FnScope N_is_simple ["points"] (defScope s_is_simple) := ⟨rfl, rfl, rfl, by decide +kernel, rfl, by decide +kernel, by decide +kernel⟩
abbrev s_goes_around : Stmt := (top 49)
abbrev N_goes_around : List Str := ["value"]
theorem sc_goes_around : FnScope N_goes_around ["value"] (defScope s_goes_around) := ⟨rfl, rfl, rfl, by decide +kernel, rfl, by decide +kernel, by decide +kernel⟩
abbrev s_is_ring : Stmt := (top 50)
abbrev N_is_ring : List Str := ["value"]
theorem sc_is_ring : FnScope N_is_ring ["value"] (defScope s_is_ring) := ⟨rfl, rfl, rfl, by decide +kernel, rfl, by decide +kernel, by decide +kernel⟩
abbrev s_ring_of : Stmt := (top 51)
abbrev N_ring_of : List Str := ["points", "start"]
theorem sc_ring_of : FnScope N_ring_of ["points"] (defScope s_ring_of) := ⟨rfl, rfl, rfl, by decide +kernel, rfl, by decide +kernel, by decide +kernel⟩
abbrev s_size_of : Stmt := (top 52)
abbrev N_size_of : List Str := ["points"]
theorem sc_size_of : FnScope N_size_of ["points"] (defScope s_size_of) := ⟨rfl, rfl, rfl, by decide +kernel, rfl, by decide +kernel, by decide +kernel⟩
abbrev s_place_in : Stmt := (top 53)
abbrev N_place_in : List Str := ["p", "ring", "crossed", "edge", "a", "b"]
theorem sc_place_in : FnScope N_place_in ["p", "ring"] (defScope s_place_in) := ⟨rfl, rfl, rfl, by decide +kernel, rfl, by decide +kernel, by decide +kernel⟩
abbrev s_left_turns : Stmt := (top 54)
abbrev N_left_turns : List Str := ["points", "row", "p"]
theorem sc_left_turns : FnScope N_left_turns ["points"] (defScope s_left_turns) := ⟨rfl, rfl, rfl, by decide +kernel, rfl, by decide +kernel, by decide +kernel⟩
abbrev s_hull_of : Stmt := (top 55)
abbrev N_hull_of : List Str := ["points", "places", "below", "above"]
theorem sc_hull_of : FnScope N_hull_of ["points"] (defScope s_hull_of) := ⟨rfl, rfl, rfl, by decide +kernel, rfl, by decide +kernel, by decide +kernel⟩
abbrev s_are_corners : Stmt := (top 56)
abbrev N_are_corners : List Str := ["points", "value", "corner"]
theorem sc_are_corners : FnScope N_are_corners ["points", "value"] (defScope s_are_corners) := ⟨rfl, rfl, rfl, by decide +kernel, rfl, by decide +kernel, by decide +kernel⟩
abbrev s_turns_left : Stmt := (top 57)
abbrev s_is_hull : Stmt := (top 58)
abbrev N_is_hull : List Str := ["points", "value", "a", "b", "p"]
theorem sc_is_hull : FnScope N_is_hull ["points", "value"] (defScope s_is_hull) := ⟨rfl, rfl, rfl, by decide +kernel, rfl, by decide +kernel, by decide +kernel⟩
abbrev s__law_stream : Stmt := (top 60)
abbrev N__law_stream : List Str := ["script"]
theorem sc__law_stream : FnScope N__law_stream ["script"] (defScope s__law_stream) := ⟨rfl, rfl, rfl, by decide +kernel, rfl, by decide +kernel, by decide +kernel⟩
abbrev s__law_next : Stmt := (top 61)
abbrev N__law_next : List Str := ["stream", "many", "k", "cell", "digit"]
theorem sc__law_next : FnScope N__law_next ["stream", "many"] (defScope s__law_next) := ⟨rfl, rfl, rfl, by decide +kernel, rfl, by decide +kernel, by decide +kernel⟩
abbrev s__law_sides : Stmt := (top 62)
abbrev N__law_sides : List Str := ["which", "row"]
theorem sc__law_sides : FnScope N__law_sides ["which", "row"] (defScope s__law_sides) := ⟨rfl, rfl, rfl, by decide +kernel, rfl, by decide +kernel, by decide +kernel⟩
abbrev s__law_rings : Stmt := (top 63)
abbrev N__law_rings : List Str := ["which", "row"]
theorem sc__law_rings : FnScope N__law_rings ["which", "row"] (defScope s__law_rings) := ⟨rfl, rfl, rfl, by decide +kernel, rfl, by decide +kernel, by decide +kernel⟩
abbrev s__law_told : Stmt := (top 64)
abbrev N__law_told : List Str := ["which", "row", "e"]
theorem sc__law_told : FnScope N__law_told ["which", "row"] (defScope s__law_told) := ⟨rfl, rfl, rfl, by decide +kernel, rfl, by decide +kernel, by decide +kernel⟩
abbrev s_law : Stmt := (top 65)
abbrev N_law : List Str := ["script", "stream", "p", "s", "square", "no_point", "no_segment", "no_line", "no_ring", "few", "crossed", "many", "rows", "which", "names", "good", "bad", "first", "k"]
theorem sc_law : FnScope N_law ["script"] (defScope s_law) := ⟨rfl, rfl, rfl, by decide +kernel, rfl, by decide +kernel, by decide +kernel⟩
structure Txt (K : PySem.W.Frag) (mg : Str → Option Value) where
  a_is_whole : Addr
  d_is_whole : FuncData
  F_is_whole : Fun K "is_whole" "is_whole" s_is_whole a_is_whole d_is_whole
  m_is_whole : mg "is_whole" = some (.ref a_is_whole)
  b_is_whole : Binds K d_is_whole ["value"] []
  a_is_pair : Addr
  d_is_pair : FuncData
  F_is_pair : Fun K "is_pair" "is_pair" s_is_pair a_is_pair d_is_pair
  m_is_pair : mg "is_pair" = some (.ref a_is_pair)
  b_is_pair : Binds K d_is_pair ["value"] []
  a_need : Addr
  d_need : FuncData
  F_need : Fun K "need" "need" s_need a_need d_need
  m_need : mg "need" = some (.ref a_need)
  b_need : Binds K d_need ["holds", "name"] []
  a_lowest : Addr
  d_lowest : FuncData
  F_lowest : Fun K "lowest" "lowest" s_lowest a_lowest d_lowest
  m_lowest : mg "lowest" = some (.ref a_lowest)
  b_lowest : Binds K d_lowest ["n", "d"] []
  a_is_fraction : Addr
  d_is_fraction : FuncData
  F_is_fraction : Fun K "is_fraction" "is_fraction" s_is_fraction a_is_fraction d_is_fraction
  m_is_fraction : mg "is_fraction" = some (.ref a_is_fraction)
  b_is_fraction : Binds K d_is_fraction ["value"] []
  a_need_both : Addr
  d_need_both : FuncData
  F_need_both : Fun K "need_both" "need_both" s_need_both a_need_both d_need_both
  m_need_both : mg "need_both" = some (.ref a_need_both)
  b_need_both : Binds K d_need_both ["first", "second"] []
  a_less : Addr
  d_less : FuncData
  F_less : Fun K "less" "less" s_less a_less d_less
  m_less : mg "less" = some (.ref a_less)
  b_less : Binds K d_less ["first", "second"] []
  a_is_coordinate : Addr
  d_is_coordinate : FuncData
  F_is_coordinate : Fun K "is_coordinate" "is_coordinate" s_is_coordinate a_is_coordinate d_is_coordinate
  m_is_coordinate : mg "is_coordinate" = some (.ref a_is_coordinate)
  b_is_coordinate : Binds K d_is_coordinate ["value"] []
  a_is_point : Addr
  d_is_point : FuncData
  F_is_point : Fun K "is_point" "is_point" s_is_point a_is_point d_is_point
  m_is_point : mg "is_point" = some (.ref a_is_point)
  b_is_point : Binds K d_is_point ["value"] []
  a_is_segment : Addr
  d_is_segment : FuncData
  F_is_segment : Fun K "is_segment" "is_segment" s_is_segment a_is_segment d_is_segment
  m_is_segment : mg "is_segment" = some (.ref a_is_segment)
  b_is_segment : Binds K d_is_segment ["value"] []
  a_are_points : Addr
  d_are_points : FuncData
  cc_are_points : Addr
  P_are_points : Addr
  F_are_points : FunT K "are_points" "are_points" s_are_points a_are_points d_are_points cc_are_points
  m_are_points : mg "are_points" = some (.ref a_are_points)
  b_are_points : Binds K d_are_points ["value", "least", "most"] []
  a_is_line : Addr
  d_is_line : FuncData
  cc_is_line : Addr
  P_is_line : Addr
  F_is_line : FunT K "is_line" "is_line" s_is_line a_is_line d_is_line cc_is_line
  m_is_line : mg "is_line" = some (.ref a_is_line)
  b_is_line : Binds K d_is_line ["value"] []
  a_joining : Addr
  d_joining : FuncData
  F_joining : Fun K "joining" "joining" s_joining a_joining d_joining
  m_joining : mg "joining" = some (.ref a_joining)
  b_joining : Binds K d_joining ["p", "q"] []
  a_edges_along : Addr
  d_edges_along : FuncData
  F_edges_along : Fun K "edges_along" "edges_along" s_edges_along a_edges_along d_edges_along
  m_edges_along : mg "edges_along" = some (.ref a_edges_along)
  b_edges_along : Binds K d_edges_along ["points"] []
  a_turn_of : Addr
  d_turn_of : FuncData
  F_turn_of : Fun K "turn_of" "turn_of" s_turn_of a_turn_of d_turn_of
  m_turn_of : mg "turn_of" = some (.ref a_turn_of)
  b_turn_of : Binds K d_turn_of ["a", "b", "c"] []
  a_is_on : Addr
  d_is_on : FuncData
  F_is_on : Fun K "is_on" "is_on" s_is_on a_is_on d_is_on
  m_is_on : mg "is_on" = some (.ref a_is_on)
  b_is_on : Binds K d_is_on ["p", "segment"] []
  a_crosses_east : Addr
  d_crosses_east : FuncData
  F_crosses_east : Fun K "crosses_east" "crosses_east" s_crosses_east a_crosses_east d_crosses_east
  m_crosses_east : mg "crosses_east" = some (.ref a_crosses_east)
  b_crosses_east : Binds K d_crosses_east ["p", "a", "b"] []
  a_foot_on : Addr
  d_foot_on : FuncData
  F_foot_on : Fun K "foot_on" "foot_on" s_foot_on a_foot_on d_foot_on
  m_foot_on : mg "foot_on" = some (.ref a_foot_on)
  b_foot_on : Binds K d_foot_on ["p", "segment"] []
  a_gap_to : Addr
  d_gap_to : FuncData
  F_gap_to : Fun K "gap_to" "gap_to" s_gap_to a_gap_to d_gap_to
  m_gap_to : mg "gap_to" = some (.ref a_gap_to)
  b_gap_to : Binds K d_gap_to ["p", "segment"] []
  a_turn : Addr
  d_turn : FuncData
  F_turn : Fun K "turn" "turn" s_turn a_turn d_turn
  m_turn : mg "turn" = some (.ref a_turn)
  b_turn : Binds K d_turn ["a", "b", "c"] []
  a_lies_on : Addr
  d_lies_on : FuncData
  F_lies_on : Fun K "lies_on" "lies_on" s_lies_on a_lies_on d_lies_on
  m_lies_on : mg "lies_on" = some (.ref a_lies_on)
  b_lies_on : Binds K d_lies_on ["p", "segment"] []
  a_foot_of : Addr
  d_foot_of : FuncData
  F_foot_of : Fun K "foot_of" "foot_of" s_foot_of a_foot_of d_foot_of
  m_foot_of : mg "foot_of" = some (.ref a_foot_of)
  b_foot_of : Binds K d_foot_of ["p", "segment"] []
  a_gap_of : Addr
  d_gap_of : FuncData
  F_gap_of : Fun K "gap_of" "gap_of" s_gap_of a_gap_of d_gap_of
  m_gap_of : mg "gap_of" = some (.ref a_gap_of)
  b_gap_of : Binds K d_gap_of ["p", "segment"] []
  a_nearest_edge : Addr
  d_nearest_edge : FuncData
  F_nearest_edge : Fun K "nearest_edge" "nearest_edge" s_nearest_edge a_nearest_edge d_nearest_edge
  m_nearest_edge : mg "nearest_edge" = some (.ref a_nearest_edge)
  b_nearest_edge : Binds K d_nearest_edge ["p", "line"] []
  a_are_apart : Addr
  d_are_apart : FuncData
  F_are_apart : Fun K "are_apart" "are_apart" s_are_apart a_are_apart d_are_apart
  m_are_apart : mg "are_apart" = some (.ref a_are_apart)
  b_are_apart : Binds K d_are_apart ["first", "second"] []
  a_meeting_on_line : Addr
  d_meeting_on_line : FuncData
  F_meeting_on_line : Fun K "meeting_on_line" "meeting_on_line" s_meeting_on_line a_meeting_on_line d_meeting_on_line
  m_meeting_on_line : mg "meeting_on_line" = some (.ref a_meeting_on_line)
  b_meeting_on_line : Binds K d_meeting_on_line ["first", "second"] []
  a_common_end : Addr
  d_common_end : FuncData
  F_common_end : Fun K "common_end" "common_end" s_common_end a_common_end d_common_end
  m_common_end : mg "common_end" = some (.ref a_common_end)
  b_common_end : Binds K d_common_end ["first", "second"] []
  a_cut_point : Addr
  d_cut_point : FuncData
  F_cut_point : Fun K "cut_point" "cut_point" s_cut_point a_cut_point d_cut_point
  m_cut_point : mg "cut_point" = some (.ref a_cut_point)
  b_cut_point : Binds K d_cut_point ["first", "before", "after"] []
  a_meeting_of : Addr
  d_meeting_of : FuncData
  F_meeting_of : Fun K "meeting_of" "meeting_of" s_meeting_of a_meeting_of d_meeting_of
  m_meeting_of : mg "meeting_of" = some (.ref a_meeting_of)
  b_meeting_of : Binds K d_meeting_of ["first", "second"] []
  a_meeting : Addr
  d_meeting : FuncData
  F_meeting : Fun K "meeting" "meeting" s_meeting a_meeting d_meeting
  m_meeting : mg "meeting" = some (.ref a_meeting)
  b_meeting : Binds K d_meeting ["first", "second"] []
  a_ways_around : Addr
  d_ways_around : FuncData
  F_ways_around : Fun K "ways_around" "ways_around" s_ways_around a_ways_around d_ways_around
  m_ways_around : mg "ways_around" = some (.ref a_ways_around)
  b_ways_around : Binds K d_ways_around ["points"] []
  a_area_around : Addr
  d_area_around : FuncData
  cc_area_around : Addr
  P_area_around : Addr
  F_area_around : FunT K "area_around" "area_around" s_area_around a_area_around d_area_around cc_area_around
  m_area_around : mg "area_around" = some (.ref a_area_around)
  b_area_around : Binds K d_area_around ["points"] []
  a_do_follow : Addr
  d_do_follow : FuncData
  F_do_follow : Fun K "do_follow" "do_follow" s_do_follow a_do_follow d_do_follow
  m_do_follow : mg "do_follow" = some (.ref a_do_follow)
  b_do_follow : Binds K d_do_follow ["i", "j", "many"] []
  a_is_simple : Addr
  d_is_simple : FuncData
  cc_is_simple : Addr
  P_is_simple : Addr
  F_is_simple : FunT K "is_simple" "is_simple" s_is_simple a_is_simple d_is_simple cc_is_simple
  m_is_simple : mg "is_simple" = some (.ref a_is_simple)
  b_is_simple : Binds K d_is_simple ["points"] []
  a_goes_around : Addr
  d_goes_around : FuncData
  F_goes_around : Fun K "goes_around" "goes_around" s_goes_around a_goes_around d_goes_around
  m_goes_around : mg "goes_around" = some (.ref a_goes_around)
  b_goes_around : Binds K d_goes_around ["value"] []
  a_is_ring : Addr
  d_is_ring : FuncData
  F_is_ring : Fun K "is_ring" "is_ring" s_is_ring a_is_ring d_is_ring
  m_is_ring : mg "is_ring" = some (.ref a_is_ring)
  b_is_ring : Binds K d_is_ring ["value"] []
  a_ring_of : Addr
  d_ring_of : FuncData
  F_ring_of : Fun K "ring_of" "ring_of" s_ring_of a_ring_of d_ring_of
  m_ring_of : mg "ring_of" = some (.ref a_ring_of)
  b_ring_of : Binds K d_ring_of ["points"] []
  a_size_of : Addr
  d_size_of : FuncData
  F_size_of : Fun K "size_of" "size_of" s_size_of a_size_of d_size_of
  m_size_of : mg "size_of" = some (.ref a_size_of)
  b_size_of : Binds K d_size_of ["points"] []
  a_place_in : Addr
  d_place_in : FuncData
  cc_place_in : Addr
  P_place_in : Addr
  F_place_in : FunT K "place_in" "place_in" s_place_in a_place_in d_place_in cc_place_in
  m_place_in : mg "place_in" = some (.ref a_place_in)
  b_place_in : Binds K d_place_in ["p", "ring"] []
  a_left_turns : Addr
  d_left_turns : FuncData
  F_left_turns : Fun K "left_turns" "left_turns" s_left_turns a_left_turns d_left_turns
  m_left_turns : mg "left_turns" = some (.ref a_left_turns)
  b_left_turns : Binds K d_left_turns ["points"] []
  a_hull_of : Addr
  d_hull_of : FuncData
  F_hull_of : Fun K "hull_of" "hull_of" s_hull_of a_hull_of d_hull_of
  m_hull_of : mg "hull_of" = some (.ref a_hull_of)
  b_hull_of : Binds K d_hull_of ["points"] []
  a_are_corners : Addr
  d_are_corners : FuncData
  cc_are_corners : Addr
  P_are_corners : Addr
  F_are_corners : FunT K "are_corners" "are_corners" s_are_corners a_are_corners d_are_corners cc_are_corners
  m_are_corners : mg "are_corners" = some (.ref a_are_corners)
  b_are_corners : Binds K d_are_corners ["points", "value"] []
  a_turns_left : Addr
  d_turns_left : FuncData
  cc_turns_left : Addr
  P_turns_left : Addr
  F_turns_left : FunT K "turns_left" "turns_left" s_turns_left a_turns_left d_turns_left cc_turns_left
  m_turns_left : mg "turns_left" = some (.ref a_turns_left)
  b_turns_left : Binds K d_turns_left ["corners"] []
  a_is_hull : Addr
  d_is_hull : FuncData
  cc_is_hull : Addr
  P_is_hull : Addr
  F_is_hull : FunT K "is_hull" "is_hull" s_is_hull a_is_hull d_is_hull cc_is_hull
  m_is_hull : mg "is_hull" = some (.ref a_is_hull)
  b_is_hull : Binds K d_is_hull ["points", "value"] []
  a__law_stream : Addr
  d__law_stream : FuncData
  F__law_stream : Fun K "_law_stream" "_law_stream" s__law_stream a__law_stream d__law_stream
  m__law_stream : mg "_law_stream" = some (.ref a__law_stream)
  b__law_stream : Binds K d__law_stream ["script"] []
  a__law_next : Addr
  d__law_next : FuncData
  F__law_next : Fun K "_law_next" "_law_next" s__law_next a__law_next d__law_next
  m__law_next : mg "_law_next" = some (.ref a__law_next)
  b__law_next : Binds K d__law_next ["stream", "many"] []
  a__law_sides : Addr
  d__law_sides : FuncData
  F__law_sides : Fun K "_law_sides" "_law_sides" s__law_sides a__law_sides d__law_sides
  m__law_sides : mg "_law_sides" = some (.ref a__law_sides)
  b__law_sides : Binds K d__law_sides ["which", "row"] []
  a__law_rings : Addr
  d__law_rings : FuncData
  F__law_rings : Fun K "_law_rings" "_law_rings" s__law_rings a__law_rings d__law_rings
  m__law_rings : mg "_law_rings" = some (.ref a__law_rings)
  b__law_rings : Binds K d__law_rings ["which", "row"] []
  a__law_told : Addr
  d__law_told : FuncData
  F__law_told : Fun K "_law_told" "_law_told" s__law_told a__law_told d__law_told
  m__law_told : mg "_law_told" = some (.ref a__law_told)
  b__law_told : Binds K d__law_told ["which", "row"] []
  a_law : Addr
  d_law : FuncData
  F_law : Fun K "law" "law" s_law a_law d_law
  m_law : mg "law" = some (.ref a_law)
  b_law : Binds K d_law ["script"] []
  n_abs : mg "abs" = none
  n_all : mg "all" = none
  n_any : mg "any" = none
  n_bool : mg "bool" = none
  n_enumerate : mg "enumerate" = none
  n_int : mg "int" = none
  n_isinstance : mg "isinstance" = none
  n_len : mg "len" = none
  n_list : mg "list" = none
  n_max : mg "max" = none
  n_min : mg "min" = none
  n_range : mg "range" = none
  n_set : mg "set" = none
  n_sorted : mg "sorted" = none
  n_sum : mg "sum" = none
  n_tuple : mg "tuple" = none
  n_zip : mg "zip" = none
  c_HIGHEST : ∃ t, mg "HIGHEST" = some (.int (1000) t)
  c_LEAST_OF_RING : ∃ t, mg "LEAST_OF_RING" = some (.int (3) t)
  c_LOWEST : ∃ t, mg "LOWEST" = some (.int (-1000) t)
  c_MOST_OF_HULL : ∃ t, mg "MOST_OF_HULL" = some (.int (60) t)
  c_MOST_OF_LINE : ∃ t, mg "MOST_OF_LINE" = some (.int (40) t)
  c_MOST_OF_RING : ∃ t, mg "MOST_OF_RING" = some (.int (40) t)
  n_gcd : mg "gcd" = some (.builtin "math.gcd")
  C_BadValue : Addr
  i_BadValue : Addr
  bv : PySem.BvX.BvTxt K mg C_BadValue i_BadValue
/-- the tables of the defs that hold generator expressions -/
def Txt.ts {K : PySem.W.Frag} {mg : Str → Option Value} (T : Txt K mg) : List Addr := [T.P_are_points, T.P_is_line, T.P_area_around, T.P_is_simple, T.P_place_in, T.P_are_corners, T.P_turns_left, T.P_is_hull]
structure TxtB {K : PySem.W.Frag} {mg : Str → Option Value} (T : Txt K mg) (base : Heap) (w : World) : Prop where
  t_are_points : GxR.TabB base mg T.cc_are_points T.P_are_points
  t_is_line : GxR.TabB base mg T.cc_is_line T.P_is_line
  t_area_around : GxR.TabB base mg T.cc_area_around T.P_area_around
  t_is_simple : GxR.TabB base mg T.cc_is_simple T.P_is_simple
  t_place_in : GxR.TabB base mg T.cc_place_in T.P_place_in
  t_are_corners : GxR.TabB base mg T.cc_are_corners T.P_are_corners
  t_turns_left : GxR.TabB base mg T.cc_turns_left T.P_turns_left
  t_is_hull : GxR.TabB base mg T.cc_is_hull T.P_is_hull
section
variable {P : Program} {w : World} {K : PySem.W.Frag} {mg : Str → Option Value} {base : Heap}
theorem ok_is_whole (T : Txt K mg) (TB : TxtB T base w) : FnOk P w K mg base CX0 1 T.a_is_whole T.d_is_whole ["value"] (fun vs H Q _ => ∃ x n, vs = [x] ∧ Ty K H x n ∧ Q (.bl (n == "int")) H) := by
  refine T.F_is_whole.ok sc_is_whole (fun vs H Q E h => ?_) (fun cdv A outer s H vs Q E hr h => ?_)
  · obtain ⟨x, n, rfl, hx, k⟩ := h
    rfl
  · obtain ⟨x, n, rfl, hx, k⟩ := h
    refine ⟨_, (pss_one (ps_ret (pe_and (pe_callB call_isi (by rfl) T.n_isinstance (by decide +kernel) (pa_cons (pv 0) (pa_cons (pe_bltn (v := .ty "int") (by rfl) T.n_int (by decide +kernel) rfl) pa_nil))) (pe_one (pe_not (pe_callB call_isi (by rfl) T.n_isinstance (by decide +kernel) (pa_cons (pv 0) (pa_cons (pe_bltn (v := .ty "bool") (by rfl) T.n_bool (by decide +kernel) rfl) pa_nil)))))))), ?_⟩
    refine ⟨_, rfl, ⟨_, _, _, _, _, rfl, .ty _, (hx).x, isaN (Ty.six hx) (by simp [My.six]), ⟨_, rfl, ?_⟩⟩⟩
    cases hx
    all_goals first | (refine ifTr (by decide) ?_) | (refine ifFa (by decide) ?_; exact k)
    · exact ⟨_, rfl, ⟨_, _, _, _, _, rfl, .ty _, ((Ty.bl _)).x, isaN (by simp [My.six]) (by simp [My.six]), ⟨_, rfl, k⟩⟩⟩
    · exact ⟨_, rfl, ⟨_, _, _, _, _, rfl, .ty _, ((Ty.int _)).x, isaN (by simp [My.six]) (by simp [My.six]), ⟨_, rfl, k⟩⟩⟩
theorem ok_is_pair (T : Txt K mg) (TB : TxtB T base w) : FnOk P w K mg base CX0 1 T.a_is_pair T.d_is_pair ["value"] (fun vs H Q _ => ∃ x n, vs = [x] ∧ Ty K H x n ∧ (n = "tuple" → ∃ a xs, x = .ref a ∧ SqT K H a xs ∧ Q (.bl (xs.length == 2)) H) ∧ (n ≠ "tuple" → Q (.bl false) H)) := by
  refine T.F_is_pair.ok sc_is_pair (fun vs H Q E h => ?_) (fun cdv A outer s H vs Q E hr h => ?_)
  · obtain ⟨x, n, rfl, hx, k1, k2⟩ := h
    rfl
  · obtain ⟨x, n, rfl, hx, k1, k2⟩ := h
    refine ⟨_, (pss_one (ps_ret (pe_and (pe_callB call_isi (by rfl) T.n_isinstance (by decide +kernel) (pa_cons (pv 0) (pa_cons (pe_bltn (v := .ty "tuple") (by rfl) T.n_tuple (by decide +kernel) rfl) pa_nil))) (pe_one (pe_cmpR op_eq (pe_callB call_len (by rfl) T.n_len (by decide +kernel) (pa_cons (pv 0) pa_nil)) pe_int (nomark _)))))), ?_⟩
    refine ⟨_, rfl, ⟨_, _, _, _, _, rfl, .ty _, (hx).x, isaN (Ty.six hx) (by simp [My.six]), ⟨_, rfl, ?_⟩⟩⟩
    by_cases e : n = "tuple"
    · subst e
      refine ifTr (by decide) ?_
      obtain ⟨a, xs, rfl, ht, k⟩ := k1 rfl
      refine ⟨_, rfl, _, _, rfl, .inr ⟨xs, ht, rfl⟩, rfl, ?_⟩
      have e : decide (V.int (xs.length : Int) = V.int 2) = (xs.length == 2) := by
        by_cases q : xs.length = 2
        · rw [q]; rfl
        · rw [beq_false_of_ne q]; exact decide_eq_false fun z => q (by injection z with z; omega)
      rw [e]
      exact k
    · refine ifFa ?_ (k2 e)
      cases hx <;> first | rfl | exact absurd rfl e
theorem okN_need (T : Txt K mg) : FnOk P w K mg base CX0 2 T.a_need T.d_need ["holds", "name"] (fun vs H Q _ => ∃ b x, vs = [.bl b, x] ∧ b = true ∧ Q .non H) := by
  refine T.F_need.ok sc_need (fun vs H Q E h => ?_) (fun cdv A outer s H vs Q E hr h => ?_)
  · obtain ⟨b, x, rfl, rfl, k⟩ := h
    rfl
  · obtain ⟨b, x, rfl, rfl, k⟩ := h
    refine ⟨_, (pss_one (ps_if (pt_not (pt_val (pv 0)))
        (pss_one ps_never)
        pss_nil)), ?_⟩
    exact ⟨_, rfl, _, rfl, iteF k⟩
theorem ok_need (T : Txt K mg) (TB : TxtB T base w) : FnOk P w K mg base (L2.CX P w) 2 T.a_need T.d_need ["holds", "name"] (fun vs H Q E => ∃ b x, vs = [.bl b, x] ∧ (b = true → Q .non H) ∧ (b = false → Rz T.C_BadValue x H E)) := by
  refine T.F_need.okX sc_need (fun vs H Q E h => ?_) (fun cdv A outer s H vs Q E hr h => ?_)
  · obtain ⟨b, x, rfl, k1, k2⟩ := h
    rfl
  · obtain ⟨b, x, rfl, k1, k2⟩ := h
    refine ⟨_, (pss_one (ps_if (pt_not (pt_val (pv 0)))
        (pss_one (ps_raiseBV rfl T.bv hr (takes_of rfl rfl rfl rfl) (by exact (pa_cons (pv 1) pa_nil))))
        pss_nil)), ?_⟩
    cases b with
    | true => exact ⟨_, rfl, _, rfl, k1 rfl⟩
    | false => exact ⟨_, rfl, _, rfl, _, rfl, _, rfl, fun d hd => k2 rfl d hd⟩
theorem ok_lowest (T : Txt K mg) (TB : TxtB T base w) : FnOk P w K mg base CX0 1 T.a_lowest T.d_lowest ["n", "d"] (fun vs H Q _ => ∃ n d : Int, vs = [.int n, .int d] ∧ d ≠ 0 ∧ n.natAbs ≤ 2 ^ 200 ∧ d.natAbs ≤ 2 ^ 200 ∧ ∀ p, H p = none → Q (.ref p) (upd H p (.tup [.int (lowN n d), .int (lowD n d)]))) := by
  refine T.F_lowest.ok sc_lowest (fun vs H Q E h => ?_) (fun cdv A outer s H vs Q E hr h => ?_)
  · obtain ⟨n, d, rfl, d0, h1, h2, k⟩ := h
    rfl
  · obtain ⟨n, d, rfl, d0, h1, h2, k⟩ := h
    refine ⟨_, (pss_cons (ps_set (i := 2) sc_lowest.nd rfl (Or.inl rfl) (pe_callBfun cr_gcd (by rfl) T.n_gcd (pa_cons (pv 0) (pa_cons (pv 1) pa_nil))))
      (C8.pss_cut (ps_if (pt_cmpR op_lt (pv 1) pe_int (nomark _))
        (pss_one (ps_set (i := 2) sc_lowest.nd rfl (Or.inl rfl) (pe_un un_neg (pv 2))))
        pss_nil)
      (pss_one (ps_ret (pe_tup (pa_cons (pe_op op_fdivV (pv 0) (pv 2)) (pa_cons (pe_op op_fdivV (pv 1) (pv 2)) pa_nil))))))), ?_⟩
    refine ⟨_, rfl, _, rfl, _, _, rfl, ?_⟩
    have hb := Nat.le_trans (sgcd_le (n := n) d0) h2
    refine ⟨fun σ' H' => H' = H ∧ σ' = [some (.int n), some (.int d), some (.int (sgcd n d))], ?_, ?_⟩
    · refine ⟨_, rfl, _, _, rfl, rfl, _, rfl, ifD (fun e => ?_) (fun e => ?_)⟩
      · refine ⟨_, rfl, _, rfl, ?_⟩
        exact ⟨rfl, by rw [sgcd, if_pos e, Int.zero_sub]; rfl⟩
      · exact ⟨rfl, by rw [sgcd, if_neg e]; rfl⟩
    · rintro σ' H' ⟨rfl, rfl⟩
      exact ⟨_, rfl, _, rfl, _, _, rfl, rfl, ⟨sgcd_ne d0, pow200 hb⟩, _, rfl, _, rfl, _, _, rfl, rfl, ⟨sgcd_ne d0, pow200 hb⟩, small rfl, fun p hp => k p hp⟩
theorem ok_is_fraction (T : Txt K mg) (TB : TxtB T base w) : FnOk P w K mg base CX0 2 T.a_is_fraction T.d_is_fraction ["value"] (fun vs H Q _ => ∃ x b, vs = [x] ∧ FV K H x b ∧ Q (.bl b) H) := by
  refine T.F_is_fraction.ok sc_is_fraction (fun vs H Q E h => ?_) (fun cdv A outer s H vs Q E hr h => ?_)
  · obtain ⟨x, b, rfl, ⟨n, hx, h1, h2⟩, k⟩ := h
    rfl
  · obtain ⟨x, b, rfl, ⟨n, hx, h1, h2⟩, k⟩ := h
    refine ⟨_, (pss_cons (ps_if (pt_not (pt_val (pe_call (ok_is_pair T TB) (hr.mono (by omega)) rfl T.m_is_pair T.F_is_pair.kp T.b_is_pair .nil pass0 (pa_cons (pv 0) pa_nil))))
        (pss_one (ps_ret pe_bl))
        pss_nil)
      (pss_cons (ps_asg (pv 0) (pg_tup (by rfl) (pgs_cons (pg_name (i := 1) sc_is_fraction.nd rfl (Or.inl rfl)) (pgs_cons (pg_name (i := 2) sc_is_fraction.nd rfl (Or.inl rfl)) pgs_nil))))
      (pss_one (ps_ret (pe_and (pe_call (ok_is_whole T TB) (hr.mono (by omega)) rfl T.m_is_whole T.F_is_whole.kp T.b_is_whole .nil pass0 (pa_cons (pv 1) pa_nil)) (pe_and (pe_call (ok_is_whole T TB) (hr.mono (by omega)) rfl T.m_is_whole T.F_is_whole.kp T.b_is_whole .nil pass0 (pa_cons (pv 2) pa_nil)) (pe_and (pe_cmpR op_ge (pv 2) pe_int (nomark _)) (pe_one (pe_cmpR op_eq (pe_callBfun cr_gcd (by rfl) T.n_gcd (pa_cons (pv 1) (pa_cons (pv 2) pa_nil))) pe_int (nomark _)))))))))), ?_⟩
    refine ⟨_, rfl, _, _, rfl, hx, fun e => ?_, fun e => ?_⟩
    rotate_left
    · rw [h2 e] at k
      exact ⟨_, rfl, k⟩
    obtain ⟨a, xs, rfl, ht, hm, rfl⟩ := h1 e
    refine ⟨a, xs, rfl, ht, _, rfl, ?_⟩
    match xs, ht, hm, k with
    | [], _, _, k => exact k
    | [_], _, _, k => rw [fracB_ne (by simp)] at k; exact k
    | _ :: _ :: _ :: r, _, _, k =>
      rw [fracB_ne (by simp)] at k
      refine ifTr ?_ k
      rw [show ((List.length (_ :: _ :: _ :: r)) == 2) = false from beq_false_of_ne (by simp)]
      rfl
    | [u, v], ht, hm, k =>
      refine ⟨_, rfl, _, _, rfl, ht, rfl, _, _, rfl, _, _, rfl, rfl, ?_⟩
      obtain ⟨m1, t1⟩ := hm u (by simp)
      obtain ⟨m2, t2⟩ := hm v (by simp)
      refine ⟨_, rfl, _, _, rfl, t1, _, rfl, ?_⟩
      cases t1
      all_goals first | (refine ifTr (by decide) ?_) | (refine ifFa (by decide) ?_; exact k)
      refine ⟨_, rfl, _, _, rfl, t2, _, rfl, ?_⟩
      cases t2
      all_goals first | (refine ifTr (by decide) ?_) | (refine ifFa (by decide) ?_; exact k)
      rename_i n d
      have k : Q (.bl (decide (1 ≤ d) && (Nat.gcd n.natAbs d.natAbs == 1))) H := k
      refine ⟨_, rfl, _, _, rfl, rfl, _, rfl, ifD (fun c => ?_) (fun c => ?_)⟩
      · refine ⟨_, rfl, _, rfl, _, _, rfl, rfl, ?_⟩
        rw [decide_eq_true c, Bool.true_and] at k
        have e2 : decide (V.int ((Nat.gcd n.natAbs d.natAbs : Nat) : Int) = V.int 1) = (Nat.gcd n.natAbs d.natAbs == 1) := by
          by_cases q : Nat.gcd n.natAbs d.natAbs = 1
          · rw [q]; rfl
          · rw [beq_false_of_ne q]; exact decide_eq_false fun z => q (by injection z with z; omega)
        rw [e2]
        exact k
      · rw [decide_eq_false c, Bool.false_and] at k
        exact k
theorem ok_need_both (T : Txt K mg) (TB : TxtB T base w) : FnOk P w K mg base CX0 3 T.a_need_both T.d_need_both ["first", "second"] (fun vs H Q _ => ∃ (a c : Addr) (f g : Int × Int), vs = [.ref a, .ref c] ∧ Gp K H a f ∧ Gp K H c g ∧ Q .non H) := by
  refine T.F_need_both.ok sc_need_both (fun vs H Q E h => ?_) (fun cdv A outer s H vs Q E hr h => ?_)
  · obtain ⟨a, c, f, g, rfl, ha, hc, k⟩ := h
    rfl
  · obtain ⟨a, c, f, g, rfl, ha, hc, k⟩ := h
    refine ⟨_, (pss_cons (ps_expr (pe_call (okN_need T) (hr.mono (by omega)) rfl T.m_need T.F_need.kp T.b_need .nil pass0 (pa_cons (pe_call (ok_is_fraction T TB) (hr.mono (by omega)) rfl T.m_is_fraction T.F_is_fraction.kp T.b_is_fraction .nil pass0 (pa_cons (pv 0) pa_nil)) (pa_cons pe_str pa_nil))))
      (pss_one (ps_expr (pe_call (okN_need T) (hr.mono (by omega)) rfl T.m_need T.F_need.kp T.b_need .nil pass0 (pa_cons (pe_call (ok_is_fraction T TB) (hr.mono (by omega)) rfl T.m_is_fraction T.F_is_fraction.kp T.b_is_fraction .nil pass0 (pa_cons (pv 1) pa_nil)) (pa_cons pe_str pa_nil)))))), ?_⟩
    exact ⟨_, rfl, _, _, rfl, ha.fv, _, _, rfl, rfl, _, rfl, _, _, rfl, hc.fv, _, _, rfl, rfl, k⟩
theorem ok_less (T : Txt K mg) (TB : TxtB T base w) : FnOk P w K mg base CX0 4 T.a_less T.d_less ["first", "second"] (fun vs H Q _ => ∃ (a c : Addr) (f g : Int × Int), vs = [.ref a, .ref c] ∧ Gp K H a f ∧ Gp K H c g ∧ Q (.bl (decide (f.1 * g.2 < g.1 * f.2))) H) := by
  refine T.F_less.ok sc_less (fun vs H Q E h => ?_) (fun cdv A outer s H vs Q E hr h => ?_)
  · obtain ⟨a, c, f, g, rfl, ha, hc, k⟩ := h
    rfl
  · obtain ⟨a, c, f, g, rfl, ha, hc, k⟩ := h
    refine ⟨_, (pss_cons (ps_expr (pe_call (ok_need_both T TB) (hr.mono (by omega)) rfl T.m_need_both T.F_need_both.kp T.b_need_both .nil pass0 (pa_cons (pv 0) (pa_cons (pv 1) pa_nil))))
      (pss_one (ps_ret (pe_cmpR op_lt (pe_op op_mulW (pe_ix (r := rIxT K) ix_tup (pv 0) pe_int (fun _ _ => rfl)) (pe_ix (r := rIxT K) ix_tup (pv 1) pe_int (fun _ _ => rfl))) (pe_op op_mulW (pe_ix (r := rIxT K) ix_tup (pv 1) pe_int (fun _ _ => rfl)) (pe_ix (r := rIxT K) ix_tup (pv 0) pe_int (fun _ _ => rfl))) (nomark _))))), ?_⟩
    exact ⟨_, rfl, _, rfl, _, _, _, _, rfl, ha, hc, _, rfl, _, _, _, _, rfl, rfl, ha.at_, at0, _, rfl, _, _, _, _, rfl, rfl, hc.at_, at1, _, _, rfl, rfl, wide ha.bn hc.bd, _, rfl, _, _, _, _, rfl, rfl, hc.at_, at0, _, rfl, _, _, _, _, rfl, rfl, ha.at_, at1, _, _, rfl, rfl, wide hc.bn ha.bd, _, _, rfl, rfl, k⟩
theorem ok_is_coordinate (T : Txt K mg) (TB : TxtB T base w) : FnOk P w K mg base CX0 2 T.a_is_coordinate T.d_is_coordinate ["value"] (fun vs H Q _ => ∃ x n, vs = [x] ∧ Ty K H x n ∧ Q (.bl (coordB x)) H) := by
  refine T.F_is_coordinate.ok sc_is_coordinate (fun vs H Q E h => ?_) (fun cdv A outer s H vs Q E hr h => ?_)
  · obtain ⟨x, n, rfl, hx, k⟩ := h
    rfl
  · obtain ⟨x, n, rfl, hx, k⟩ := h
    refine ⟨_, (pss_one (ps_ret (pe_and (pe_call (ok_is_whole T TB) (hr.mono (by omega)) rfl T.m_is_whole T.F_is_whole.kp T.b_is_whole .nil pass0 (pa_cons (pv 0) pa_nil)) (pe_one (pe_chain op_le op_le (pe_gI T.c_LOWEST) (pv 0) (pe_gI T.c_HIGHEST)))))), ?_⟩
    refine ⟨_, rfl, _, _, rfl, hx, ⟨_, rfl, ?_⟩⟩
    cases hx
    all_goals first | (refine ifTr (by decide) ?_) | (refine ifFa (by decide) ?_; exact k)
    rename_i i
    refine ⟨_, rfl, _, _, rfl, rfl, ⟨_, rfl, ?_⟩⟩
    refine ifB (fun e => ?_) (fun e => ?_)
    · refine ⟨_, _, rfl, rfl, ?_⟩
      rw [show coordB (.int i) = (decide (-1000 ≤ i) && decide (i ≤ 1000)) from rfl, e, Bool.true_and] at k
      exact k
    · rw [show coordB (.int i) = (decide (-1000 ≤ i) && decide (i ≤ 1000)) from rfl, e, Bool.false_and] at k
      exact k
theorem ok_is_point (T : Txt K mg) (TB : TxtB T base w) : FnOk P w K mg base CX0 3 T.a_is_point T.d_is_point ["value"] (fun vs H Q _ => ∃ x b, vs = [x] ∧ PV K H x b ∧ Q (.bl b) H) := by
  refine T.F_is_point.ok sc_is_point (fun vs H Q E h => ?_) (fun cdv A outer s H vs Q E hr h => ?_)
  · obtain ⟨x, b, rfl, ⟨n, hx, h1, h2⟩, k⟩ := h
    rfl
  · obtain ⟨x, b, rfl, ⟨n, hx, h1, h2⟩, k⟩ := h
    refine ⟨_, (pss_one (ps_ret (pe_and (pe_call (ok_is_pair T TB) (hr.mono (by omega)) rfl T.m_is_pair T.F_is_pair.kp T.b_is_pair .nil pass0 (pa_cons (pv 0) pa_nil)) (pe_and (pe_call (ok_is_coordinate T TB) (hr.mono (by omega)) rfl T.m_is_coordinate T.F_is_coordinate.kp T.b_is_coordinate .nil pass0 (pa_cons (pe_ix (r := rIxT K) ix_tup (pv 0) pe_int (fun _ _ => rfl)) pa_nil)) (pe_one (pe_call (ok_is_coordinate T TB) (hr.mono (by omega)) rfl T.m_is_coordinate T.F_is_coordinate.kp T.b_is_coordinate .nil pass0 (pa_cons (pe_ix (r := rIxT K) ix_tup (pv 0) pe_int (fun _ _ => rfl)) pa_nil))))))), ?_⟩
    have k1 : n = "tuple" → ∃ a xs, x = .ref a ∧ SqT K H a xs ∧ (∀ v ∈ xs, ∃ m, Ty K H v m) ∧ Q (.bl (pointB xs)) H := fun e => by
      obtain ⟨a, xs, e1, e2, e3, e4⟩ := h1 e
      exact ⟨a, xs, e1, e2, e3, by rw [← e4]; exact k⟩
    have k2 : n ≠ "tuple" → Q (.bl false) H := fun e => by rw [← h2 e]; exact k
    refine ⟨_, rfl, _, _, rfl, hx, fun e => ?_, fun e => ?_⟩
    · obtain ⟨a, xs, rfl, ht, hm, k⟩ := k1 e
      refine ⟨a, xs, rfl, ht, _, rfl, ?_⟩
      match xs, ht, hm, k with
      | [], _, _, k => exact iteF k
      | [_], _, _, k => exact iteF k
      | [u, v], ht, hm, k =>
        refine iteT ?_
        obtain ⟨m1, t1⟩ := hm u (by simp)
        obtain ⟨m2, t2⟩ := hm v (by simp)
        refine ⟨_, rfl, _, _, _, _, rfl, rfl, ht, at0, _, _, rfl, t1, _, rfl, ?_⟩
        rw [show pointB [u, v] = (coordB u && coordB v) from rfl] at k
        refine ifB (fun e => ?_) (fun e => ?_)
        · refine ⟨_, rfl, _, _, _, _, rfl, rfl, ht, at1, _, _, rfl, t2, ?_⟩
          rw [e, Bool.true_and] at k
          exact k
        · rw [e, Bool.false_and] at k
          exact k
      | _ :: _ :: _ :: r, _, _, k =>
        refine ifFa ?_ k
        exact beq_false_of_ne (by simp)
    · exact ⟨_, rfl, iteF (k2 e)⟩
theorem ok_is_segment (T : Txt K mg) (TB : TxtB T base w) : FnOk P w K mg base CX0 4 T.a_is_segment T.d_is_segment ["value"] (fun vs H Q _ => ∃ x b, vs = [x] ∧ SgV K H x b ∧ Q (.bl b) H) := by
  refine T.F_is_segment.ok sc_is_segment (fun vs H Q E h => ?_) (fun cdv A outer s H vs Q E hr h => ?_)
  · obtain ⟨x, b, rfl, ⟨n, hx, h1, h2⟩, k⟩ := h
    rfl
  · obtain ⟨x, b, rfl, ⟨n, hx, h1, h2⟩, k⟩ := h
    refine ⟨_, (pss_one (ps_ret (pe_and (pe_call (ok_is_pair T TB) (hr.mono (by omega)) rfl T.m_is_pair T.F_is_pair.kp T.b_is_pair .nil pass0 (pa_cons (pv 0) pa_nil)) (pe_and (pe_call (ok_is_point T TB) (hr.mono (by omega)) rfl T.m_is_point T.F_is_point.kp T.b_is_point .nil pass0 (pa_cons (pe_ix (r := rIxT K) ix_tup (pv 0) pe_int (fun _ _ => rfl)) pa_nil)) (pe_and (pe_call (ok_is_point T TB) (hr.mono (by omega)) rfl T.m_is_point T.F_is_point.kp T.b_is_point .nil pass0 (pa_cons (pe_ix (r := rIxT K) ix_tup (pv 0) pe_int (fun _ _ => rfl)) pa_nil)) (pe_one (pe_cmpR (op_ltP hr.units0) (pe_ix (r := rIxT K) ix_tup (pv 0) pe_int (fun _ _ => rfl)) (pe_ix (r := rIxT K) ix_tup (pv 0) pe_int (fun _ _ => rfl)) (nomark _)))))))), ?_⟩
    refine ⟨_, rfl, _, _, rfl, hx, fun e => ?_, fun e => ?_⟩
    rotate_left
    · rw [h2 e] at k
      exact ⟨_, rfl, k⟩
    obtain ⟨g, xs, rfl, ht, hc⟩ := h1 e
    refine ⟨g, xs, rfl, ht, _, rfl, ?_⟩
    rcases hc with ⟨hl, rfl⟩ | ⟨u, v, c, d, rfl, hu, hv, hc⟩
    · rw [show (xs.length == 2) = false from beq_false_of_ne hl]
      exact iteF k
    refine iteT ?_
    refine ⟨_, rfl, _, _, _, _, rfl, rfl, ht, at0, _, _, rfl, hu, _, rfl, ?_⟩
    rcases hc with ⟨hcd, rfl⟩ | ⟨rfl, rfl, i, j, ax, ay, bx, dy, rfl, rfl, hi, hj, oa, oc, rfl⟩
    · refine ifB (fun e1 => ?_) (fun e1 => ?_)
      · refine ⟨_, rfl, _, _, _, _, rfl, rfl, ht, at1, _, _, rfl, hv, _, rfl, ?_⟩
        have e2 : d = false := by rw [e1] at hcd; exact hcd
        rw [e2]
        exact iteF k
      · exact k
    refine iteT ?_
    refine ⟨_, rfl, _, _, _, _, rfl, rfl, ht, at1, _, _, rfl, hv, _, rfl, iteT ?_⟩
    exact ⟨_, rfl, _, _, _, _, rfl, rfl, ht, at0, _, rfl, _, _, _, _, rfl, rfl, ht, at1, _, _, _, _, _, _, rfl, rfl, hi, hj, k⟩
theorem ok_are_points (T : Txt K mg) (TB : TxtB T base w) : FnOk P w K mg base CX0 7 T.a_are_points T.d_are_points ["value", "least", "most"] (fun vs H Q _ => ∃ x b lo hi, vs = [x, .int lo, .int hi] ∧ AV K lo hi H x b ∧ Tbs T.ts H ∧ ∀ H', Same H H' → Q (.bl b) H') := by
  refine T.F_are_points.ok sc_are_points (fun vs H Q E h => ?_) (fun A outer s H vs Q E hr h => ?_)
  · obtain ⟨x, b, lo, hi, rfl, ⟨n, hx, h1, h2⟩, tb, k⟩ := h
    rfl
  · obtain ⟨x, b, lo, hi, rfl, ⟨n, hx, h1, h2⟩, tb, k⟩ := h
    refine ⟨_, (pss_one (ps_ret (pe_and (pe_callB call_isi (by rfl) T.n_isinstance (by decide +kernel) (pa_cons (pv 0) (pa_cons (pe_bltn (v := .ty "tuple") (by rfl) T.n_tuple (by decide +kernel) rfl) pa_nil))) (pe_and (pe_chain op_le op_le (pv 1) (pe_callB call_len (by rfl) T.n_len (by decide +kernel) (pa_cons (pv 0) pa_nil)) (pv 2)) (pe_one (Gx.pe_gen false (own := [("p", 3)]) (g := gName 3) (tt := tYes) (x := "p") (k := 3) rfl (hr.mono (by omega)) rfl sc_are_points.nd rfl T.n_all TB.t_are_points rfl (Gx.genS_by rfl rfl (by decide +kernel) rfl rfl (by rfl)) (blkOk_by (own := [("p", 3)]) (N := N_are_points) (sc := defScope s_are_points) (by decide +kernel)) (pi_tup (pv 0)) (fun _ _ _ _ _ _ _ hB => (pg_name (i := 3) sc_are_points.nd rfl (Or.inl rfl))) (fun _ _ _ _ _ _ _ hB => pts_nil) (fun _ _ _ _ _ _ _ hB => (pe_call (ok_is_point T TB) (hB.mono (by omega)) rfl T.m_is_point T.F_is_point.kp T.b_is_point .nil pass0 (pa_cons (pv 3) pa_nil))) (fun _ => rfl))))))), ?_⟩
    refine ⟨_, rfl, _, _, _, _, _, rfl, .ty _, hx.x, isaN hx.six (by simp [My.six]), _, rfl, ?_⟩
    by_cases e : n = "tuple"
    rotate_left
    · rw [h2 e] at k
      refine ifFa ?_ (k _ (Same.refl _))
      cases hx <;> first | rfl | exact absurd rfl e
    subst e
    refine ifTr (by decide) ?_
    obtain ⟨a, xs, bs, rfl, ht, hl, hb, hr, rfl⟩ := h1 rfl
    refine ⟨_, rfl, _, rfl, _, _, rfl, .inr ⟨_, ht, rfl⟩, _, _, rfl, rfl, _, rfl, ?_⟩
    refine ifB (fun e1 => ?_) (fun e1 => ?_)
    rotate_left
    · have k := k _ (Same.refl _)
      rw [e1, Bool.false_and, Bool.false_and] at k
      exact ⟨_, rfl, iteF k⟩
    refine ⟨_, rfl, _, _, rfl, rfl, _, rfl, ?_⟩
    refine ifB (fun e2 => ?_) (fun e2 => ?_)
    rotate_left
    · have k := k _ (Same.refl _)
      rw [e2, Bool.and_false, Bool.false_and] at k
      exact k
    have kq : ∀ H', Same H H' → Q (.bl (bs.all id)) H' := fun H' s => by
      have := k H' s
      rw [e1, e2, Bool.true_and, Bool.true_and] at this
      exact this
    refine ⟨_, rfl, _, rfl, ⟨_, ht⟩, tb _ (by simp [Txt.ts]), fun H2 g2 => ?_⟩
    have s2 := same_tab (tb _ (by simp [Txt.ts])) g2
    refine Gx.gen_walk walk_tup (fun i H' => Same H H' ∧ ∀ j c, j < i → bs[j]? = some c → c = true) ⟨s2, fun j c h => absurd h (Nat.not_lt_zero _)⟩ (fun i H' h => tSame h.1 ht) ?_ ?_
    · rintro i x H3 H4 hi ⟨s3, ha⟩ ⟨rfl, hxi⟩
      refine ⟨rfl, yesI ?_⟩
      refine iteT ?_
      have hbi : bs[i]? = some bs[i] := List.getElem?_eq_getElem (by omega)
      refine ⟨_, rfl, _, _, rfl, (hr i x _ hxi hbi).same s3, _, rfl, ?_⟩
      by_cases q : bs[i] = false
      · refine (if_pos q).mpr ?_
        have := kq _ s3
        rw [show bs.all id = false from List.all_eq_false.mpr ⟨bs[i], List.mem_of_getElem? hbi, by rw [q]; decide⟩] at this
        exact this
      · refine (if_neg q).mpr ⟨s3, fun j c hj hc => ?_⟩
        by_cases z : j = i
        · subst z
          rw [hbi] at hc
          cases hc
          cases w : bs[j] with
          | true => rfl
          | false => exact absurd w q
        · exact ha j c (by omega) hc
    · rintro H3 ⟨s3, ha⟩
      have := kq _ s3
      rw [show bs.all id = true from all_get.mpr fun i c h => by have q := (List.getElem?_eq_some_iff.mp h).1; exact ha i c (by omega) h] at this
      exact this
theorem ok_is_line (T : Txt K mg) (TB : TxtB T base w) : FnOk P w K mg base CX0 11 T.a_is_line T.d_is_line ["value"] (fun vs H Q _ => ∃ x b, vs = [x] ∧ LnV K H x b ∧ Tbs T.ts H ∧ ∀ H', Same H H' → Q (.bl b) H') := by
  refine T.F_is_line.ok sc_is_line (fun vs H Q E h => ?_) (fun A outer s H vs Q E hr h => ?_)
  · obtain ⟨x, b, rfl, hx, tb, k⟩ := h
    rfl
  · obtain ⟨x, b, rfl, hx, tb, k⟩ := h
    refine ⟨_, (pss_one (ps_ret (pe_and (pe_call (ok_are_points T TB) (hr.mono (by omega)) rfl T.m_are_points T.F_are_points.kp T.b_are_points .nil pass0 (pa_cons (pv 0) (pa_cons pe_int (pa_cons (pe_gI T.c_MOST_OF_LINE) pa_nil)))) (pe_one (Gx.pe_gen false (own := [("p", 1), ("q", 2)]) (g := gTup K 2 (gCons (gName 1) (gCons (gName 2) gNil))) (tt := tYes) (x := "p") (k := 0) rfl (hr.mono (by omega)) rfl sc_is_line.nd rfl T.n_all TB.t_is_line rfl (Gx.genS_by rfl rfl (by decide +kernel) rfl rfl (by rfl)) (blkOk_by (own := [("p", 1), ("q", 2)]) (N := N_is_line) (sc := defScope s_is_line) (by decide +kernel)) (RZ.pi_zipA rfl T.n_zip (pa_cons (pv 0) (pa_cons (pe_slice sl_tupA (pv 0) (po_some pe_int) po_none) pa_nil))) (fun _ _ _ _ _ _ _ hB => (pg_tup (by rfl) (pgs_cons (pg_name (i := 1) sc_is_line.nd rfl (Or.inl rfl)) (pgs_cons (pg_name (i := 2) sc_is_line.nd rfl (Or.inl rfl)) pgs_nil)))) (fun _ _ _ _ _ _ _ hB => pts_nil) (fun _ _ _ _ _ _ _ hB => (pe_cmpR (op_neK (K := K) rfl hB.units) (pv 1) (pv 2) (nomark _))) (fun _ => rfl)))))), ?_⟩
    rcases hx with ⟨a, zs, rfl, hz, hl, hb⟩ | ⟨hav, rfl⟩
    rotate_left
    · exact ⟨_, rfl, _, _, _, _, rfl, hav, tb, fun H1 s1 => ⟨_, rfl, k H1 s1⟩⟩
    refine ⟨_, rfl, _, _, _, _, rfl, hz.av hl, tb, fun H1 s1 => ⟨_, rfl, ?_⟩⟩
    refine ifB (fun e1 => ?_) (fun e1 => ?_)
    rotate_left
    · have e2 : b = false := by
        cases b with
        | false => rfl
        | true =>
          obtain ⟨l1, l2, _⟩ := hb.mp rfl
          rw [decide_eq_true (by omega), decide_eq_true (by omega)] at e1
          cases e1
      have := k H1 s1
      rw [e2] at this
      exact this
    obtain ⟨l1, l2⟩ := Bool.and_eq_true _ _ ▸ e1
    have l1 := of_decide_eq_true l1
    have l2 := of_decide_eq_true l2
    refine ⟨_, rfl, _, rfl, _, rfl, ?_⟩
    refine noPart (slA_of (tSame s1 hz.t) fun q H2 s2 hq => ?_)
    rw [show ((1 : Int)) = ((1 : Nat) : Int) from rfl, cut_drop] at hq
    have s12 := s1.trans s2
    refine ⟨_, _, _, _, rfl, .inr ⟨tSame s12 hz.t, hq, (tb.same s12) _ (by simp [Txt.ts]), fun H3 g3 => ?_⟩⟩
    have s3 := same_tab ((tb.same s12) _ (by simp [Txt.ts])) g3
    refine Gx.gen_walk (walk_zipT (xs := refs zs) (ys := (refs zs).drop 1) rfl) (fun i H' => Same H2 H' ∧ ∀ (j : Nat) u w, j < i → zs[j]? = some u → zs[j + 1]? = some w → ¬ (u.2.1 = w.2.1 ∧ u.2.2 = w.2.2)) ⟨s3, fun j u w h => absurd h (Nat.not_lt_zero _)⟩ (fun i H' h => ⟨tSame h.1 (tSame s12 hz.t), tSame h.1 hq⟩) ?_ ?_
    · rintro i x H4 H5 hi ⟨s4, ha⟩ ⟨T1, x1, x2, rfl, hT, rfl, f1, f2⟩
      have f1 : (refs zs)[i]? = some x1 := f1
      have f2 : ((refs zs).drop 1)[i]? = some x2 := f2
      rw [List.getElem?_map] at f1
      rw [List.getElem?_drop, List.getElem?_map, Nat.add_comm] at f2
      obtain ⟨u, g1, rfl⟩ := Option.map_eq_some_iff.mp f1
      obtain ⟨w2, g2, rfl⟩ := Option.map_eq_some_iff.mp f2
      have s14 := s12.trans s4
      have hu := tOver (o := HO.tup [V.ref u.1, V.ref w2.1]) hT ((hz.p.same s14).get g1)
      have hw := tOver (o := HO.tup [V.ref u.1, V.ref w2.1]) hT ((hz.p.same s14).get g2)
      have s5 := same_then (o := HO.tup [V.ref u.1, V.ref w2.1]) s4 hT
      refine ⟨_, _, rfl, tHere, rfl, _, _, rfl, _, _, rfl, rfl, ⟨rfl, yesI ?_⟩⟩
      refine iteT ?_
      refine ⟨_, rfl, _, rfl, _, _, _, _, _, _, rfl, rfl, hu, hw, _, rfl, ?_⟩
      by_cases q3 : u.2.1 = w2.2.1 ∧ u.2.2 = w2.2.2
      · rw [decide_eq_true q3]
        refine (if_pos rfl).mpr ?_
        have e2 : b = false := by
          cases b with
          | false => rfl
          | true => exact absurd q3 ((hb.mp rfl).2.2 i u w2 g1 g2)
        have := k _ (s12.trans s5)
        rw [e2] at this
        exact this
      · rw [decide_eq_false q3]
        refine (if_neg (by decide)).mpr ⟨s5, fun j u' w' hj h1 h2 => ?_⟩
        by_cases e : j = i
        · subst e
          rw [g1] at h1
          rw [g2] at h2
          cases h1
          cases h2
          exact q3
        · exact ha j u' w' (by omega) h1 h2
    · rintro H4 ⟨s4, ha⟩
      have e2 : b = true := hb.mpr ⟨by omega, by omega, fun i u w h1 h2 => ha i u w (by
        have := (List.getElem?_eq_some_iff.mp h2).1
        rw [List.length_drop, List.length_map]
        omega) h1 h2⟩
      have := k _ (s12.trans s4)
      rw [e2] at this
      exact this
theorem ok_joining (T : Txt K mg) (TB : TxtB T base w) : FnOk P w K mg base CX0 1 T.a_joining T.d_joining ["p", "q"] (fun vs H Q _ => ∃ (u w : Zp), vs = [.ref u.1, .ref w.1] ∧ SqT K H u.1 [.int u.2.1, .int u.2.2] ∧ SqT K H w.1 [.int w.2.1, .int w.2.2] ∧ On u.2.1 u.2.2 ∧ On w.2.1 w.2.2 ∧ ¬ (u.2.1 = w.2.1 ∧ u.2.2 = w.2.2) ∧ ∀ g xs, H g = none → EdgeAt K (upd H g (.tup xs)) g u w → Q (.ref g) (upd H g (.tup xs))) := by
  refine T.F_joining.ok sc_joining (fun vs H Q E h => ?_) (fun cdv A outer s H vs Q E hr h => ?_)
  · obtain ⟨u, w, rfl, hu, hw, ou, ow, ne, k⟩ := h
    rfl
  · obtain ⟨u, w, rfl, hu, hw, ou, ow, ne, k⟩ := h
    refine ⟨_, (pss_one (ps_ret (pe_ifExp (pt_cmpR (op_ltP hr.units0) (pv 0) (pv 1) (nomark _)) (pe_tup (pa_cons (pv 0) (pa_cons (pv 1) pa_nil))) (pe_tup (pa_cons (pv 1) (pa_cons (pv 0) pa_nil)))))), ?_⟩
    refine ⟨_, rfl, _, rfl, _, _, _, _, _, _, rfl, rfl, hu, hw, _, rfl, ifB (fun e => ?_) (fun e => ?_)⟩
    · exact ⟨_, rfl, _, rfl, small rfl, fun g hg => k g _ hg (.inl ⟨tHere, tOver hg hu, tOver hg hw, ou, ow, e⟩)⟩
    · exact ⟨_, rfl, _, rfl, small rfl, fun g hg => k g _ hg (.inr ⟨tHere, tOver hg hw, tOver hg hu, ow, ou, ltP_or ne e⟩)⟩
theorem ok_edges_along (T : Txt K mg) (TB : TxtB T base w) : FnOk P w K mg base CX0 2 T.a_edges_along T.d_edges_along ["points"] (fun vs H Q _ => ∃ (a : Addr) (zs : List Zp), vs = [.ref a] ∧ LnAt K H a zs ∧ 2 ≤ zs.length ∧ zs.length ≤ 900 ∧ Ne zs ∧ ∀ (l : Addr) (gs : List Addr) H', Same H H' → SqL K H' l (gs.map V.ref) → gs.length + 1 = zs.length → (∀ (i : Nat) g u w, gs[i]? = some g → zs[i]? = some u → zs[i + 1]? = some w → EdgeAt K H' g u w) → Q (.ref l) H') := by
  refine T.F_edges_along.ok sc_edges_along (fun vs H Q E h => ?_) (fun cdv A outer s H vs Q E hr h => ?_)
  · obtain ⟨a, zs, rfl, ha, l1, l2, hne, k⟩ := h
    rfl
  · obtain ⟨a, zs, rfl, ha, l1, l2, hne, k⟩ := h
    refine ⟨_, (pss_one (ps_ret (pe_lc (own := [("p", 1), ("q", 2)]) (g := gTup K 2 (gCons (gName 1) (gCons (gName 2) gNil))) (tt := tYes) rfl sc_edges_along.nd (RZ.pi_zipA rfl T.n_zip (pa_cons (pv 0) (pa_cons (pe_slice sl_tupA (pv 0) (po_some pe_int) po_none) pa_nil))) (blkOk_by (own := [("p", 1), ("q", 2)]) (N := N_edges_along) (sc := defScope s_edges_along) (by decide +kernel)) (fun _ _ _ _ _ => (pg_tup (by rfl) (pgs_cons (pg_name (i := 1) sc_edges_along.nd rfl (Or.inl rfl)) (pgs_cons (pg_name (i := 2) sc_edges_along.nd rfl (Or.inl rfl)) pgs_nil)))) (fun _ _ _ _ _ => pts_nil) (fun _ _ _ _ _ => (pe_call (ok_joining T TB) (hr.mono (by omega)) rfl T.m_joining T.F_joining.kp T.b_joining .nil pass0 (pa_cons (pv 1) (pa_cons (pv 2) pa_nil))))))), ?_⟩
    refine ⟨_, rfl, _, rfl, _, rfl, ?_⟩
    refine noPart (slA_of ha.t fun q H2 s2 hq => ?_)
    rw [show ((1 : Int)) = ((1 : Nat) : Int) from rfl, cut_drop] at hq
    have ha2 := ha.same s2
    refine ⟨_, _, _, _, rfl, .inr ⟨ha2.t, hq, fun D hD => lc_it (walk_zipT (xs := refs zs) (ys := (refs zs).drop 1) rfl) (fun i H' => ∃ gs : List Addr, Same H2 H' ∧ H' D = some (.lst (gs.map V.ref)) ∧ gs.length = i ∧ ∀ (j : Nat) g u w, gs[j]? = some g → zs[j]? = some u → zs[j + 1]? = some w → EdgeAt K H' g u w) ⟨[], same_new hD, upd_same, rfl, fun j g u w h => by cases h⟩ (fun i H' _ h => ?_) ?_ ?_⟩⟩
    · obtain ⟨_, s3, _⟩ := h
      exact ⟨tSame s3 ha2.t, tSame s3 hq⟩
    · rintro i x H4 H5 hi ⟨gs, s4, hD4, hl, hg⟩ ⟨T1, x1, x2, rfl, hT, rfl, f1, f2⟩
      have f1 : (refs zs)[i]? = some x1 := f1
      have f2 : ((refs zs).drop 1)[i]? = some x2 := f2
      rw [List.getElem?_map] at f1
      rw [List.getElem?_drop, List.getElem?_map, Nat.add_comm] at f2
      obtain ⟨u, g1, rfl⟩ := Option.map_eq_some_iff.mp f1
      obtain ⟨w2, g2, rfl⟩ := Option.map_eq_some_iff.mp f2
      have s5 := same_new (o := HO.tup [V.ref u.1, V.ref w2.1]) hT
      have s45 := s4.trans s5
      have ha5 := ha2.same s45
      refine ⟨_, _, rfl, tHere, rfl, _, _, rfl, _, _, rfl, rfl, ⟨rfl, yesI ?_⟩⟩
      refine iteT ?_
      refine ⟨_, rfl, _, rfl, u, w2, rfl, ha5.p.get g1, ha5.p.get g2, ha5.on _ (List.mem_of_getElem? g1), ha5.on _ (List.mem_of_getElem? g2), hne i u w2 g1 g2, fun g xs6 hg6 he6 => ?_⟩
      have s6 := same_new (o := HO.tup xs6) hg6
      have hD6 := s6.get (s5.get hD4)
      have hz : (refs zs).length = zs.length := List.length_map _
      refine ⟨_, hD6, by rw [List.length_map]; exact line_of (by omega), gs ++ [g], (s45.trans s6).put hD, by rw [upd_same, List.map_append]; rfl, by rw [List.length_append, hl]; rfl, fun j g' u' w' h1 h2 h3 => ?_⟩
      have put := fun {z : Addr} {a b : Zp} (h : EdgeAt K (upd (upd H4 T1 (.tup [V.ref u.1, V.ref w2.1])) g (.tup xs6)) z a b) => h.put (o := HO.lst (gs.map V.ref ++ [V.ref g])) ⟨_, hD6⟩
      by_cases e : j < gs.length
      · rw [List.getElem?_append_left e] at h1
        exact put (((hg j g' u' w' h1 h2 h3).same s5).same s6)
      · rw [List.getElem?_append_right (by omega)] at h1
        have e2 : j = gs.length := by
          have := (List.getElem?_eq_some_iff.mp h1).1
          simp at this
          omega
        subst e2
        rw [Nat.sub_self] at h1
        cases h1
        rw [hl, g1] at h2
        rw [hl, g2] at h3
        cases h2
        cases h3
        exact put he6
    · rintro H4 ⟨gs, s4, hD4, hl, hg⟩
      exact k D gs H4 (s2.trans s4) (SqL.of hD4) (by rw [hl, List.length_drop, List.length_map]; omega) hg
theorem ok_turn_of (T : Txt K mg) (TB : TxtB T base w) : FnOk P w K mg base CX0 1 T.a_turn_of T.d_turn_of ["a", "b", "c"] (fun vs H Q _ => ∃ (a b c : Addr) (ax ay bx dy cx cy : Int), vs = [.ref a, .ref b, .ref c] ∧ SqT K H a [.int ax, .int ay] ∧ SqT K H b [.int bx, .int dy] ∧ SqT K H c [.int cx, .int cy] ∧ (Sm ax ∧ Sm bx ∧ Sm ay ∧ Sm dy) ∧ Q (.int (turnI ax ay bx dy cx cy)) H) := by
  refine T.F_turn_of.ok sc_turn_of (fun vs H Q E h => ?_) (fun cdv A outer s H vs Q E hr h => ?_)
  · obtain ⟨a, b, c, ax, ay, bx, dy, cx, cy, rfl, ha, hb, hc, ⟨s1, s2, s3, s4⟩, k⟩ := h
    rfl
  · obtain ⟨a, b, c, ax, ay, bx, dy, cx, cy, rfl, ha, hb, hc, ⟨s1, s2, s3, s4⟩, k⟩ := h
    refine ⟨_, (pss_one (ps_ret (pe_op op_sub (pe_op op_mul (pe_op op_sub (pe_ix (r := rIxT K) ix_tup (pv 1) pe_int (fun _ _ => rfl)) (pe_ix (r := rIxT K) ix_tup (pv 0) pe_int (fun _ _ => rfl))) (pe_op op_sub (pe_ix (r := rIxT K) ix_tup (pv 2) pe_int (fun _ _ => rfl)) (pe_ix (r := rIxT K) ix_tup (pv 0) pe_int (fun _ _ => rfl)))) (pe_op op_mul (pe_op op_sub (pe_ix (r := rIxT K) ix_tup (pv 1) pe_int (fun _ _ => rfl)) (pe_ix (r := rIxT K) ix_tup (pv 0) pe_int (fun _ _ => rfl))) (pe_op op_sub (pe_ix (r := rIxT K) ix_tup (pv 2) pe_int (fun _ _ => rfl)) (pe_ix (r := rIxT K) ix_tup (pv 0) pe_int (fun _ _ => rfl))))))), ?_⟩
    unfold Sm at s1 s2 s3 s4
    refine ⟨_, rfl, _, _, _, _, rfl, rfl, hb, at0, _, rfl, _, _, _, _, rfl, rfl, ha, at0, _, _, rfl, rfl, _, rfl, _, _, _, _, rfl, rfl, hc, at1, _, rfl, _, _, _, _, rfl, rfl, ha, at1, _, _, rfl, rfl, _, _, rfl, rfl, .inl ⟨by omega, by omega⟩, ?_⟩
    exact ⟨_, rfl, _, _, _, _, rfl, rfl, hb, at1, _, rfl, _, _, _, _, rfl, rfl, ha, at1, _, _, rfl, rfl, _, rfl, _, _, _, _, rfl, rfl, hc, at0, _, rfl, _, _, _, _, rfl, rfl, ha, at0, _, _, rfl, rfl, _, _, rfl, rfl, .inl ⟨by omega, by omega⟩, _, _, rfl, rfl, k⟩
theorem ok_is_on (T : Txt K mg) (TB : TxtB T base w) : FnOk P w K mg base CX0 2 T.a_is_on T.d_is_on ["p", "segment"] (fun vs H Q _ => ∃ (p g a c : Addr) (px py ax ay bx dy : Int), vs = [.ref p, .ref g] ∧ SqT K H p [.int px, .int py] ∧ SegAt K H g a c ax ay bx dy ∧ On px py ∧ Q (.bl (onI ax ay bx dy px py)) H) := by
  refine T.F_is_on.ok sc_is_on (fun vs H Q E h => ?_) (fun cdv A outer s H vs Q E hr h => ?_)
  · obtain ⟨p, g, a, c, px, py, ax, ay, bx, dy, rfl, hp, hg, op, k⟩ := h
    rfl
  · obtain ⟨p, g, a, c, px, py, ax, ay, bx, dy, rfl, hp, hg, op, k⟩ := h
    refine ⟨_, (pss_cons (ps_asg (pv 1) (pg_tup (by rfl) (pgs_cons (pg_name (i := 2) sc_is_on.nd rfl (Or.inl rfl)) (pgs_cons (pg_name (i := 3) sc_is_on.nd rfl (Or.inl rfl)) pgs_nil))))
      (pss_one (ps_ret (pe_and (pe_cmpR op_eq (pe_call (ok_turn_of T TB) (hr.mono (by omega)) rfl T.m_turn_of T.F_turn_of.kp T.b_turn_of .nil pass0 (pa_cons (pv 2) (pa_cons (pv 3) (pa_cons (pv 0) pa_nil)))) pe_int (nomark _)) (pe_one (pe_chain (op_leP hr.units0) (op_leP hr.units0) (pv 2) (pv 0) (pv 3))))))), ?_⟩
    refine ⟨_, rfl, _, _, rfl, hg.g, rfl, _, _, rfl, _, _, rfl, rfl, ?_⟩
    
    refine ⟨_, rfl, _, rfl, _, rfl, _, _, _, _, _, _, _, _, _, rfl, hg.a, hg.c, hp, ⟨hg.oa.sx, hg.oc.sx, hg.oa.sy, hg.oc.sy⟩, rfl, _, rfl, ifD (fun e => ?_) (fun e => ?_)⟩
    · have e : turnI ax ay bx dy px py = 0 := by injection e
      unfold onI at k
      rw [decide_eq_true e, Bool.true_and] at k
      refine ⟨_, rfl, _, rfl, _, _, _, _, _, _, rfl, rfl, hg.a, hp, _, rfl, ifB (fun q => ?_) (fun q => ?_)⟩
      · refine ⟨_, rfl, _, _, _, _, _, _, rfl, rfl, hp, hg.c, ?_⟩
        rw [q, Bool.true_and] at k
        exact k
      · rw [q, Bool.false_and] at k
        exact k
    · have e : turnI ax ay bx dy px py ≠ 0 := fun z => e (by rw [z])
      unfold onI at k
      rw [decide_eq_false e, Bool.false_and] at k
      exact k
theorem ok_crosses_east (T : Txt K mg) (TB : TxtB T base w) : FnOk P w K mg base CX0 2 T.a_crosses_east T.d_crosses_east ["p", "a", "b"] (fun vs H Q _ => ∃ (p a c : Addr) (P A B : Pt), vs = [.ref p, .ref a, .ref c] ∧ SqT K H p [.int P.1, .int P.2] ∧ SqT K H a [.int A.1, .int A.2] ∧ SqT K H c [.int B.1, .int B.2] ∧ (On A.1 A.2 ∧ On B.1 B.2) ∧ ∀ H', Same H H' → Q (.bl (eastB P A B)) H') := by
  refine T.F_crosses_east.ok sc_crosses_east (fun vs H Q E h => ?_) (fun cdv A outer s H vs Q E hr h => ?_)
  · obtain ⟨p, a, c, P, A, B, rfl, hp, ha, hc, ⟨oa, oc⟩, k⟩ := h
    rfl
  · obtain ⟨p, a, c, P, A, B, rfl, hp, ha, hc, ⟨oa, oc⟩, k⟩ := h
    refine ⟨_, (pss_cons (ps_asg (pe_ifExp (pt_cmpR op_lt (pe_ix (r := rIxT K) ix_tup (pv 1) pe_int (fun _ _ => rfl)) (pe_ix (r := rIxT K) ix_tup (pv 2) pe_int (fun _ _ => rfl)) (nomark _)) (pe_tup (pa_cons (pv 1) (pa_cons (pv 2) pa_nil))) (pe_tup (pa_cons (pv 2) (pa_cons (pv 1) pa_nil)))) (pg_tup (by rfl) (pgs_cons (pg_name (i := 3) sc_crosses_east.nd rfl (Or.inl rfl)) (pgs_cons (pg_name (i := 4) sc_crosses_east.nd rfl (Or.inl rfl)) pgs_nil))))
      (pss_one (ps_ret (pe_and (pe_chain op_le op_lt (pe_ix (r := rIxT K) ix_tup (pv 3) pe_int (fun _ _ => rfl)) (pe_ix (r := rIxT K) ix_tup (pv 0) pe_int (fun _ _ => rfl)) (pe_ix (r := rIxT K) ix_tup (pv 4) pe_int (fun _ _ => rfl))) (pe_one (pe_cmpR op_gt (pe_call (ok_turn_of T TB) (hr.mono (by omega)) rfl T.m_turn_of T.F_turn_of.kp T.b_turn_of .nil pass0 (pa_cons (pv 3) (pa_cons (pv 4) (pa_cons (pv 0) pa_nil)))) pe_int (nomark _))))))), ?_⟩
    refine ⟨_, rfl, _, _, _, _, rfl, rfl, ha, at1, _, rfl, _, _, _, _, rfl, rfl, hc, at1, _, _, rfl, rfl, _, rfl, ifD (fun e => ?_) (fun e => ?_)⟩
    · refine ⟨_, rfl, _, rfl, small rfl, fun q hq => ?_⟩
      have s1 := same_new (o := HO.tup [.ref a, .ref c]) hq
      have k := k _ s1
      have hp := tSame s1 hp
      have hl := tSame s1 ha
      have hh := tSame s1 hc
      have E : eastB P A B = (decide (A.2 ≤ P.2) && decide (P.2 < B.2) && decide (0 < tn A B P)) := if_pos e
      rw [E] at k
      refine ⟨_, _, rfl, tHere, rfl, _, _, rfl, _, _, rfl, rfl, ?_⟩
      refine ⟨_, rfl, _, _, _, _, rfl, rfl, hl, at1, _, rfl, _, _, _, _, rfl, rfl, hp, at1, _, _, rfl, rfl, _, rfl, ifB (fun q1 => ?_) (fun q1 => ?_)⟩
      · rw [q1, Bool.true_and] at k
        refine ⟨_, rfl, _, _, _, _, rfl, rfl, hh, at1, _, _, rfl, rfl, _, rfl, ifB (fun q2 => ?_) (fun q2 => ?_)⟩
        · rw [q2, Bool.true_and] at k
          exact ⟨_, rfl, _, rfl, _, rfl, _, _, _, _, _, _, _, _, _, rfl, hl, hh, hp, ⟨oa.sx, oc.sx, oa.sy, oc.sy⟩, _, _, rfl, rfl, k⟩
        · rw [q2, Bool.false_and] at k
          exact k
      · rw [q1, Bool.false_and, Bool.false_and] at k
        exact ⟨_, rfl, iteF k⟩
    · refine ⟨_, rfl, _, rfl, small rfl, fun q hq => ?_⟩
      have s1 := same_new (o := HO.tup [.ref c, .ref a]) hq
      have k := k _ s1
      have hp := tSame s1 hp
      have hl := tSame s1 hc
      have hh := tSame s1 ha
      have E : eastB P A B = (decide (B.2 ≤ P.2) && decide (P.2 < A.2) && decide (0 < tn B A P)) := if_neg e
      rw [E] at k
      refine ⟨_, _, rfl, tHere, rfl, _, _, rfl, _, _, rfl, rfl, ?_⟩
      refine ⟨_, rfl, _, _, _, _, rfl, rfl, hl, at1, _, rfl, _, _, _, _, rfl, rfl, hp, at1, _, _, rfl, rfl, _, rfl, ifB (fun q1 => ?_) (fun q1 => ?_)⟩
      · rw [q1, Bool.true_and] at k
        refine ⟨_, rfl, _, _, _, _, rfl, rfl, hh, at1, _, _, rfl, rfl, _, rfl, ifB (fun q2 => ?_) (fun q2 => ?_)⟩
        · rw [q2, Bool.true_and] at k
          exact ⟨_, rfl, _, rfl, _, rfl, _, _, _, _, _, _, _, _, _, rfl, hl, hh, hp, ⟨oc.sx, oa.sx, oc.sy, oa.sy⟩, _, _, rfl, rfl, k⟩
        · rw [q2, Bool.false_and] at k
          exact k
      · rw [q1, Bool.false_and, Bool.false_and] at k
        exact ⟨_, rfl, iteF k⟩
theorem ok_foot_on (T : Txt K mg) (TB : TxtB T base w) : FnOk P w K mg base CX0 2 T.a_foot_on T.d_foot_on ["p", "segment"] (fun vs H Q _ => ∃ (p g a c : Addr) (px py ax ay bx dy : Int), vs = [.ref p, .ref g] ∧ SqT K H p [.int px, .int py] ∧ SegAt K H g a c ax ay bx dy ∧ On px py ∧ ∀ q, H q = none → Q (.ref q) (upd H q (.tup [.int (lowN (clamp (dot (px - ax) (py - ay) (bx - ax) (dy - ay)) (sq (bx - ax) (dy - ay))) (sq (bx - ax) (dy - ay))), .int (lowD (clamp (dot (px - ax) (py - ay) (bx - ax) (dy - ay)) (sq (bx - ax) (dy - ay))) (sq (bx - ax) (dy - ay)))]))) := by
  refine T.F_foot_on.ok sc_foot_on (fun vs H Q E h => ?_) (fun cdv A outer s H vs Q E hr h => ?_)
  · obtain ⟨p, g, a, c, px, py, ax, ay, bx, dy, rfl, hp, hg, op, k⟩ := h
    rfl
  · obtain ⟨p, g, a, c, px, py, ax, ay, bx, dy, rfl, hp, hg, op, k⟩ := h
    refine ⟨_, (pss_cons (ps_asg (pv 1) (pg_tup (by rfl) (pgs_cons (pg_name (i := 2) sc_foot_on.nd rfl (Or.inl rfl)) (pgs_cons (pg_name (i := 3) sc_foot_on.nd rfl (Or.inl rfl)) pgs_nil))))
      (pss_cons (ps_par (i := 4) (j := 5) (by rfl) sc_foot_on.nd rfl rfl (by decide) rfl rfl (pa_cons (pe_op op_sub (pe_ix (r := rIxT K) ix_tup (pv 3) pe_int (fun _ _ => rfl)) (pe_ix (r := rIxT K) ix_tup (pv 2) pe_int (fun _ _ => rfl))) (pa_cons (pe_op op_sub (pe_ix (r := rIxT K) ix_tup (pv 3) pe_int (fun _ _ => rfl)) (pe_ix (r := rIxT K) ix_tup (pv 2) pe_int (fun _ _ => rfl))) pa_nil)) (by rfl))
      (pss_cons (ps_set (i := 6) sc_foot_on.nd rfl (Or.inl rfl) (pe_op op_add (pe_op op_mul (pv 4) (pv 4)) (pe_op op_mul (pv 5) (pv 5))))
      (pss_cons (ps_set (i := 7) sc_foot_on.nd rfl (Or.inl rfl) (pe_op op_add (pe_op op_mul (pe_op op_sub (pe_ix (r := rIxT K) ix_tup (pv 0) pe_int (fun _ _ => rfl)) (pe_ix (r := rIxT K) ix_tup (pv 2) pe_int (fun _ _ => rfl))) (pv 4)) (pe_op op_mul (pe_op op_sub (pe_ix (r := rIxT K) ix_tup (pv 0) pe_int (fun _ _ => rfl)) (pe_ix (r := rIxT K) ix_tup (pv 2) pe_int (fun _ _ => rfl))) (pv 5))))
      (pss_one (ps_ret (pe_call (ok_lowest T TB) (hr.mono (by omega)) rfl T.m_lowest T.F_lowest.kp T.b_lowest .nil pass0 (pa_cons (pe_callB (call_min2 rfl) (by rfl) T.n_min (by decide +kernel) (pa_cons (pe_callB (call_max2 rfl) (by rfl) T.n_max (by decide +kernel) (pa_cons (pv 7) (pa_cons pe_int pa_nil))) (pa_cons (pv 6) pa_nil))) (pa_cons (pv 6) pa_nil))))))))), ?_⟩
    refine ⟨_, rfl, _, _, rfl, hg.g, rfl, _, _, rfl, _, _, rfl, rfl, ?_⟩
    
    have vd := hg.oc.d hg.oa
    have ud := op.d hg.oa
    have hs := sq_pos (ltP_ne hg.lt)
    have sl := sq_le vd
    have dl := dot_le ud vd
    refine ⟨_, rfl, _, _, _, _, rfl, rfl, hg.c, at0, _, rfl, _, _, _, _, rfl, rfl, hg.a, at0, _, _, rfl, rfl, _, rfl, _, _, _, _, rfl, rfl, hg.c, at1, _, rfl, _, _, _, _, rfl, rfl, hg.a, at1, _, _, rfl, rfl, _, _, rfl, ?_⟩
    refine ⟨_, rfl, _, rfl, _, _, rfl, rfl, .inl (m64 vd.1), _, rfl, _, rfl, _, _, rfl, rfl, .inl (m64 vd.2), _, _, rfl, rfl, ?_⟩
    refine ⟨_, rfl, _, _, _, _, rfl, rfl, hp, at0, _, rfl, _, _, _, _, rfl, rfl, hg.a, at0, _, _, rfl, rfl, _, rfl, _, _, rfl, rfl, .inl (m64 ud.1), _, rfl, _, _, _, _, rfl, rfl, hp, at1, _, rfl, _, _, _, _, rfl, rfl, hg.a, at1, _, _, rfl, rfl, _, rfl, _, _, rfl, rfl, .inl (m64 ud.2), _, _, rfl, rfl, ?_⟩
    refine ⟨_, rfl, _, _, rfl, _, rfl, _, _, rfl, _, rfl, _, _, rfl, show sq (bx - ax) (dy - ay) ≠ 0 by omega, pow_up (clamp_le dl sl), pow_up sl, fun q hq => k q hq⟩
theorem ok_gap_to (T : Txt K mg) (TB : TxtB T base w) : FnOk P w K mg base CX0 3 T.a_gap_to T.d_gap_to ["p", "segment"] (fun vs H Q _ => ∃ (p g a c : Addr) (px py ax ay bx dy : Int), vs = [.ref p, .ref g] ∧ SqT K H p [.int px, .int py] ∧ SegAt K H g a c ax ay bx dy ∧ On px py ∧ ∀ H' q, Same H H' → SqT K H' q [.int (lowN (gapN (px - ax) (py - ay) (bx - ax) (dy - ay) (lowN (clamp (dot (px - ax) (py - ay) (bx - ax) (dy - ay)) (sq (bx - ax) (dy - ay))) (sq (bx - ax) (dy - ay))) (lowD (clamp (dot (px - ax) (py - ay) (bx - ax) (dy - ay)) (sq (bx - ax) (dy - ay))) (sq (bx - ax) (dy - ay)))) ((lowD (clamp (dot (px - ax) (py - ay) (bx - ax) (dy - ay)) (sq (bx - ax) (dy - ay))) (sq (bx - ax) (dy - ay))) * (lowD (clamp (dot (px - ax) (py - ay) (bx - ax) (dy - ay)) (sq (bx - ax) (dy - ay))) (sq (bx - ax) (dy - ay))))), .int (lowD (gapN (px - ax) (py - ay) (bx - ax) (dy - ay) (lowN (clamp (dot (px - ax) (py - ay) (bx - ax) (dy - ay)) (sq (bx - ax) (dy - ay))) (sq (bx - ax) (dy - ay))) (lowD (clamp (dot (px - ax) (py - ay) (bx - ax) (dy - ay)) (sq (bx - ax) (dy - ay))) (sq (bx - ax) (dy - ay)))) ((lowD (clamp (dot (px - ax) (py - ay) (bx - ax) (dy - ay)) (sq (bx - ax) (dy - ay))) (sq (bx - ax) (dy - ay))) * (lowD (clamp (dot (px - ax) (py - ay) (bx - ax) (dy - ay)) (sq (bx - ax) (dy - ay))) (sq (bx - ax) (dy - ay)))))] → Q (.ref q) H') := by
  refine T.F_gap_to.ok sc_gap_to (fun vs H Q E h => ?_) (fun cdv A outer s H vs Q E hr h => ?_)
  · obtain ⟨p, g, a, c, px, py, ax, ay, bx, dy, rfl, hp, hg, op, k⟩ := h
    rfl
  · obtain ⟨p, g, a, c, px, py, ax, ay, bx, dy, rfl, hp, hg, op, k⟩ := h
    refine ⟨_, (pss_cons (ps_asg (pv 1) (pg_tup (by rfl) (pgs_cons (pg_name (i := 2) sc_gap_to.nd rfl (Or.inl rfl)) (pgs_cons (pg_name (i := 3) sc_gap_to.nd rfl (Or.inl rfl)) pgs_nil))))
      (pss_cons (ps_asg (pe_call (ok_foot_on T TB) (hr.mono (by omega)) rfl T.m_foot_on T.F_foot_on.kp T.b_foot_on .nil pass0 (pa_cons (pv 0) (pa_cons (pv 1) pa_nil))) (pg_tup (by rfl) (pgs_cons (pg_name (i := 4) sc_gap_to.nd rfl (Or.inl rfl)) (pgs_cons (pg_name (i := 5) sc_gap_to.nd rfl (Or.inl rfl)) pgs_nil))))
      (pss_cons (ps_set (i := 6) sc_gap_to.nd rfl (Or.inl rfl) (pe_op op_sub (pe_op op_mul (pv 5) (pe_op op_sub (pe_ix (r := rIxT K) ix_tup (pv 0) pe_int (fun _ _ => rfl)) (pe_ix (r := rIxT K) ix_tup (pv 2) pe_int (fun _ _ => rfl)))) (pe_op op_mul (pv 4) (pe_op op_sub (pe_ix (r := rIxT K) ix_tup (pv 3) pe_int (fun _ _ => rfl)) (pe_ix (r := rIxT K) ix_tup (pv 2) pe_int (fun _ _ => rfl))))))
      (pss_cons (ps_set (i := 7) sc_gap_to.nd rfl (Or.inl rfl) (pe_op op_sub (pe_op op_mul (pv 5) (pe_op op_sub (pe_ix (r := rIxT K) ix_tup (pv 0) pe_int (fun _ _ => rfl)) (pe_ix (r := rIxT K) ix_tup (pv 2) pe_int (fun _ _ => rfl)))) (pe_op op_mul (pv 4) (pe_op op_sub (pe_ix (r := rIxT K) ix_tup (pv 3) pe_int (fun _ _ => rfl)) (pe_ix (r := rIxT K) ix_tup (pv 2) pe_int (fun _ _ => rfl))))))
      (pss_one (ps_ret (pe_call (ok_lowest T TB) (hr.mono (by omega)) rfl T.m_lowest T.F_lowest.kp T.b_lowest .nil pass0 (pa_cons (pe_op op_add (pe_op op_mul (pv 6) (pv 6)) (pe_op op_mul (pv 7) (pv 7))) (pa_cons (pe_op op_mul (pv 5) (pv 5)) pa_nil))))))))), ?_⟩
    refine ⟨_, rfl, _, _, rfl, hg.g, rfl, _, _, rfl, _, _, rfl, rfl, ?_⟩
    
    have vd := hg.oc.d hg.oa
    have ud := op.d hg.oa
    have hs := sq_pos (ltP_ne hg.lt)
    have L := low_ok (n := clamp (dot (px - ax) (py - ay) (bx - ax) (dy - ay)) (sq (bx - ax) (dy - ay))) (d := sq (bx - ax) (dy - ay)) (by omega)
    have nl := Nat.le_trans L.leN (clamp_le (dot_le ud vd) (sq_le vd))
    have dl := Nat.le_trans L.leD (sq_le vd)
    have gl := gap_le ud vd nl dl
    have dp := L.pos
    refine ⟨_, rfl, _, rfl, _, _, _, _, _, _, _, _, _, _, rfl, hp, hg, op, fun q hq => ?_⟩
    generalize lowN (clamp (dot (px - ax) (py - ay) (bx - ax) (dy - ay)) (sq (bx - ax) (dy - ay))) (sq (bx - ax) (dy - ay)) = n at *
    generalize lowD (clamp (dot (px - ax) (py - ay) (bx - ax) (dy - ay)) (sq (bx - ax) (dy - ay))) (sq (bx - ax) (dy - ay)) = d at *
    have hp1 := tOver (o := HO.tup [.int n, .int d]) hq hp
    have hg1 := hg.same (same_new (o := HO.tup [.int n, .int d]) hq)
    refine ⟨_, _, rfl, tHere, rfl, _, _, rfl, _, _, rfl, rfl, ?_⟩
    refine ⟨_, rfl, _, rfl, _, _, _, _, rfl, rfl, hp1, at0, _, rfl, _, _, _, _, rfl, rfl, hg1.a, at0, _, _, rfl, rfl, _, _, rfl, rfl, .inr (m64 ud.1), _, rfl, _, rfl, _, _, _, _, rfl, rfl, hg1.c, at0, _, rfl, _, _, _, _, rfl, rfl, hg1.a, at0, _, _, rfl, rfl, _, _, rfl, rfl, .inr (m64 vd.1), _, _, rfl, rfl, ?_⟩
    refine ⟨_, rfl, _, rfl, _, _, _, _, rfl, rfl, hp1, at1, _, rfl, _, _, _, _, rfl, rfl, hg1.a, at1, _, _, rfl, rfl, _, _, rfl, rfl, .inr (m64 ud.2), _, rfl, _, rfl, _, _, _, _, rfl, rfl, hg1.c, at1, _, rfl, _, _, _, _, rfl, rfl, hg1.a, at1, _, _, rfl, rfl, _, _, rfl, rfl, .inr (m64 vd.2), _, _, rfl, rfl, ?_⟩
    have e1 : d * (px - ax) - n * (bx - ax) = (px - ax) * d - n * (bx - ax) := by rw [Int.mul_comm d]
    have e2 : d * (py - ay) - n * (dy - ay) = (py - ay) * d - n * (dy - ay) := by rw [Int.mul_comm d]
    refine ⟨_, rfl, _, rfl, _, _, rfl, rfl, .inl (by rw [e1]; exact m64 gl.1), _, rfl, _, rfl, _, _, rfl, rfl, .inl (by rw [e2]; exact m64 gl.2.1), _, _, rfl, rfl, _, rfl, _, rfl, _, _, rfl, rfl, .inl (m64 dl), _, _, rfl, show d * d ≠ 0 from mul_ne dp dp, ?_, pow_up (mul_le dl dl), fun r hr => ?_⟩
    · show ((d * (px - ax) - n * (bx - ax)) * (d * (px - ax) - n * (bx - ax)) + (d * (py - ay) - n * (dy - ay)) * (d * (py - ay) - n * (dy - ay))).natAbs ≤ 2 ^ 200
      rw [e1, e2]
      exact pow_up gl.2.2
    · refine k _ r (same_then (same_new hq) hr) ?_
      have e3 : (d * (px - ax) - n * (bx - ax)) * (d * (px - ax) - n * (bx - ax)) + (d * (py - ay) - n * (dy - ay)) * (d * (py - ay) - n * (dy - ay)) = gapN (px - ax) (py - ay) (bx - ax) (dy - ay) n d := by rw [e1, e2]; rfl
      rw [← e3]
      exact tHere
theorem ok_turn (T : Txt K mg) (TB : TxtB T base w) : FnOk P w K mg base (L2.CX P w) 4 T.a_turn T.d_turn ["a", "b", "c"] (fun vs H Q E => ∃ x y z b c d, vs = [x, y, z] ∧ PV K H x b ∧ PV K H y c ∧ PV K H z d ∧ (b = false → ∀ H', Same H H' → Rz T.C_BadValue (.str "a") H' E) ∧ (b = true → c = false → ∀ H', Same H H' → Rz T.C_BadValue (.str "b") H' E) ∧ (b = true → c = true → d = false → ∀ H', Same H H' → Rz T.C_BadValue (.str "c") H' E) ∧ (b = true → c = true → d = true → ∀ v H', Same H H' → Q v H')) := by
  refine T.F_turn.okX sc_turn (fun vs H Q E h => ?_) (fun cdv A outer s H vs Q E hr h => ?_)
  · obtain ⟨x, y, z, b, c, d, rfl, h1, h2, h3, k1, k2, k3, k⟩ := h
    rfl
  · obtain ⟨x, y, z, b, c, d, rfl, h1, h2, h3, k1, k2, k3, k⟩ := h
    refine ⟨_, (pss_cons (ps_expr (pe_call (ok_need T TB) (hr.mono (by omega)) rfl T.m_need T.F_need.kp T.b_need .nil (passes_call (takes_of rfl rfl rfl rfl) (fun _ _ _ _ h => h)) (pa_cons (pe_call (ok_is_point T TB) (hr.mono (by omega)) rfl T.m_is_point T.F_is_point.kp T.b_is_point .nil pass0 (pa_cons (pv 0) pa_nil)) (pa_cons pe_str pa_nil))))
      (pss_cons (ps_expr (pe_call (ok_need T TB) (hr.mono (by omega)) rfl T.m_need T.F_need.kp T.b_need .nil (passes_call (takes_of rfl rfl rfl rfl) (fun _ _ _ _ h => h)) (pa_cons (pe_call (ok_is_point T TB) (hr.mono (by omega)) rfl T.m_is_point T.F_is_point.kp T.b_is_point .nil pass0 (pa_cons (pv 1) pa_nil)) (pa_cons pe_str pa_nil))))
      (pss_cons (ps_expr (pe_call (ok_need T TB) (hr.mono (by omega)) rfl T.m_need T.F_need.kp T.b_need .nil (passes_call (takes_of rfl rfl rfl rfl) (fun _ _ _ _ h => h)) (pa_cons (pe_call (ok_is_point T TB) (hr.mono (by omega)) rfl T.m_is_point T.F_is_point.kp T.b_is_point .nil pass0 (pa_cons (pv 2) pa_nil)) (pa_cons pe_str pa_nil))))
      (pss_one (ps_ret (pe_call (ok_turn_of T TB) (hr.mono (by omega)) rfl T.m_turn_of T.F_turn_of.kp T.b_turn_of .nil pass0 (pa_cons (pv 0) (pa_cons (pv 1) (pa_cons (pv 2) pa_nil))))))))), ?_⟩
    refine ⟨_, rfl, x, b, rfl, h1, _, _, rfl, fun e1 => ?_, fun e1 => k1 e1 _ (Same.refl _)⟩
    refine ⟨_, rfl, y, c, rfl, h2, _, _, rfl, fun e2 => ?_, fun e2 => k2 e1 e2 _ (Same.refl _)⟩
    refine ⟨_, rfl, z, d, rfl, h3, _, _, rfl, fun e3 => ?_, fun e3 => k3 e1 e2 e3 _ (Same.refl _)⟩
    subst e1 e2 e3
    obtain ⟨ga, a, rfl, ha, oa⟩ := h1.get
    obtain ⟨gb, b, rfl, hb, ob⟩ := h2.get
    obtain ⟨gc, c, rfl, hc, oc⟩ := h3.get
    exact ⟨_, rfl, _, rfl, _, rfl, _, _, _, _, _, _, _, _, _, rfl, ha, hb, hc, ⟨oa.sx, ob.sx, oa.sy, ob.sy⟩, k rfl rfl rfl _ _ (Same.refl _)⟩
theorem ok_lies_on (T : Txt K mg) (TB : TxtB T base w) : FnOk P w K mg base (L2.CX P w) 5 T.a_lies_on T.d_lies_on ["p", "segment"] (fun vs H Q E => ∃ x y b c, vs = [x, y] ∧ PV K H x b ∧ SgV K H y c ∧ Tbs T.ts H ∧ (b = false → ∀ H', Same H H' → Rz T.C_BadValue (.str "p") H' E) ∧ (b = true → c = false → ∀ H', Same H H' → Rz T.C_BadValue (.str "segment") H' E) ∧ (b = true → c = true → ∀ v H', Same H H' → Q v H')) := by
  refine T.F_lies_on.okX sc_lies_on (fun vs H Q E h => ?_) (fun cdv A outer s H vs Q E hr h => ?_)
  · obtain ⟨x, y, b, c, rfl, h1, h2, tb, k1, k2, k⟩ := h
    rfl
  · obtain ⟨x, y, b, c, rfl, h1, h2, tb, k1, k2, k⟩ := h
    refine ⟨_, (pss_cons (ps_expr (pe_call (ok_need T TB) (hr.mono (by omega)) rfl T.m_need T.F_need.kp T.b_need .nil (passes_call (takes_of rfl rfl rfl rfl) (fun _ _ _ _ h => h)) (pa_cons (pe_call (ok_is_point T TB) (hr.mono (by omega)) rfl T.m_is_point T.F_is_point.kp T.b_is_point .nil pass0 (pa_cons (pv 0) pa_nil)) (pa_cons pe_str pa_nil))))
      (pss_cons (ps_expr (pe_call (ok_need T TB) (hr.mono (by omega)) rfl T.m_need T.F_need.kp T.b_need .nil (passes_call (takes_of rfl rfl rfl rfl) (fun _ _ _ _ h => h)) (pa_cons (pe_call (ok_is_segment T TB) (hr.mono (by omega)) rfl T.m_is_segment T.F_is_segment.kp T.b_is_segment .nil pass0 (pa_cons (pv 1) pa_nil)) (pa_cons pe_str pa_nil))))
      (pss_one (ps_ret (pe_call (ok_is_on T TB) (hr.mono (by omega)) rfl T.m_is_on T.F_is_on.kp T.b_is_on .nil pass0 (pa_cons (pv 0) (pa_cons (pv 1) pa_nil))))))), ?_⟩
    refine ⟨_, rfl, x, b, rfl, h1, _, _, rfl, fun e1 => ?_, fun e1 => k1 e1 _ (Same.refl _)⟩
    refine ⟨_, rfl, y, c, rfl, h2, _, _, rfl, fun e2 => ?_, fun e2 => k2 e1 e2 _ (Same.refl _)⟩
    subst e1 e2
    obtain ⟨gp, p, rfl, hp, op⟩ := h1.get
    obtain ⟨g, a, d, ax, ay, bx, dy, rfl, hg⟩ := h2.get
    exact ⟨_, rfl, _, rfl, _, _, _, _, _, _, _, _, _, _, rfl, hp, hg, op, k rfl rfl _ _ (Same.refl _)⟩
theorem ok_foot_of (T : Txt K mg) (TB : TxtB T base w) : FnOk P w K mg base (L2.CX P w) 5 T.a_foot_of T.d_foot_of ["p", "segment"] (fun vs H Q E => ∃ x y b c, vs = [x, y] ∧ PV K H x b ∧ SgV K H y c ∧ Tbs T.ts H ∧ (b = false → ∀ H', Same H H' → Rz T.C_BadValue (.str "p") H' E) ∧ (b = true → c = false → ∀ H', Same H H' → Rz T.C_BadValue (.str "segment") H' E) ∧ (b = true → c = true → ∀ v H', Same H H' → Q v H')) := by
  refine T.F_foot_of.okX sc_foot_of (fun vs H Q E h => ?_) (fun cdv A outer s H vs Q E hr h => ?_)
  · obtain ⟨x, y, b, c, rfl, h1, h2, tb, k1, k2, k⟩ := h
    rfl
  · obtain ⟨x, y, b, c, rfl, h1, h2, tb, k1, k2, k⟩ := h
    refine ⟨_, (pss_cons (ps_expr (pe_call (ok_need T TB) (hr.mono (by omega)) rfl T.m_need T.F_need.kp T.b_need .nil (passes_call (takes_of rfl rfl rfl rfl) (fun _ _ _ _ h => h)) (pa_cons (pe_call (ok_is_point T TB) (hr.mono (by omega)) rfl T.m_is_point T.F_is_point.kp T.b_is_point .nil pass0 (pa_cons (pv 0) pa_nil)) (pa_cons pe_str pa_nil))))
      (pss_cons (ps_expr (pe_call (ok_need T TB) (hr.mono (by omega)) rfl T.m_need T.F_need.kp T.b_need .nil (passes_call (takes_of rfl rfl rfl rfl) (fun _ _ _ _ h => h)) (pa_cons (pe_call (ok_is_segment T TB) (hr.mono (by omega)) rfl T.m_is_segment T.F_is_segment.kp T.b_is_segment .nil pass0 (pa_cons (pv 1) pa_nil)) (pa_cons pe_str pa_nil))))
      (pss_one (ps_ret (pe_call (ok_foot_on T TB) (hr.mono (by omega)) rfl T.m_foot_on T.F_foot_on.kp T.b_foot_on .nil pass0 (pa_cons (pv 0) (pa_cons (pv 1) pa_nil))))))), ?_⟩
    refine ⟨_, rfl, x, b, rfl, h1, _, _, rfl, fun e1 => ?_, fun e1 => k1 e1 _ (Same.refl _)⟩
    refine ⟨_, rfl, y, c, rfl, h2, _, _, rfl, fun e2 => ?_, fun e2 => k2 e1 e2 _ (Same.refl _)⟩
    subst e1 e2
    obtain ⟨gp, p, rfl, hp, op⟩ := h1.get
    obtain ⟨g, a, d, ax, ay, bx, dy, rfl, hg⟩ := h2.get
    exact ⟨_, rfl, _, rfl, _, _, _, _, _, _, _, _, _, _, rfl, hp, hg, op, fun q hq => k rfl rfl _ _ (same_new hq)⟩
theorem ok_gap_of (T : Txt K mg) (TB : TxtB T base w) : FnOk P w K mg base (L2.CX P w) 5 T.a_gap_of T.d_gap_of ["p", "segment"] (fun vs H Q E => ∃ x y b c, vs = [x, y] ∧ PV K H x b ∧ SgV K H y c ∧ Tbs T.ts H ∧ (b = false → ∀ H', Same H H' → Rz T.C_BadValue (.str "p") H' E) ∧ (b = true → c = false → ∀ H', Same H H' → Rz T.C_BadValue (.str "segment") H' E) ∧ (b = true → c = true → ∀ v H', Same H H' → Q v H')) := by
  refine T.F_gap_of.okX sc_gap_of (fun vs H Q E h => ?_) (fun cdv A outer s H vs Q E hr h => ?_)
  · obtain ⟨x, y, b, c, rfl, h1, h2, tb, k1, k2, k⟩ := h
    rfl
  · obtain ⟨x, y, b, c, rfl, h1, h2, tb, k1, k2, k⟩ := h
    refine ⟨_, (pss_cons (ps_expr (pe_call (ok_need T TB) (hr.mono (by omega)) rfl T.m_need T.F_need.kp T.b_need .nil (passes_call (takes_of rfl rfl rfl rfl) (fun _ _ _ _ h => h)) (pa_cons (pe_call (ok_is_point T TB) (hr.mono (by omega)) rfl T.m_is_point T.F_is_point.kp T.b_is_point .nil pass0 (pa_cons (pv 0) pa_nil)) (pa_cons pe_str pa_nil))))
      (pss_cons (ps_expr (pe_call (ok_need T TB) (hr.mono (by omega)) rfl T.m_need T.F_need.kp T.b_need .nil (passes_call (takes_of rfl rfl rfl rfl) (fun _ _ _ _ h => h)) (pa_cons (pe_call (ok_is_segment T TB) (hr.mono (by omega)) rfl T.m_is_segment T.F_is_segment.kp T.b_is_segment .nil pass0 (pa_cons (pv 1) pa_nil)) (pa_cons pe_str pa_nil))))
      (pss_one (ps_ret (pe_call (ok_gap_to T TB) (hr.mono (by omega)) rfl T.m_gap_to T.F_gap_to.kp T.b_gap_to .nil pass0 (pa_cons (pv 0) (pa_cons (pv 1) pa_nil))))))), ?_⟩
    refine ⟨_, rfl, x, b, rfl, h1, _, _, rfl, fun e1 => ?_, fun e1 => k1 e1 _ (Same.refl _)⟩
    refine ⟨_, rfl, y, c, rfl, h2, _, _, rfl, fun e2 => ?_, fun e2 => k2 e1 e2 _ (Same.refl _)⟩
    subst e1 e2
    obtain ⟨gp, p, rfl, hp, op⟩ := h1.get
    obtain ⟨g, a, d, ax, ay, bx, dy, rfl, hg⟩ := h2.get
    exact ⟨_, rfl, _, rfl, _, _, _, _, _, _, _, _, _, _, rfl, hp, hg, op, fun H' q s _ => k rfl rfl _ _ s⟩
theorem ok_nearest_edge (T : Txt K mg) (TB : TxtB T base w) : FnOk P w K mg base (L2.CX P w) 12 T.a_nearest_edge T.d_nearest_edge ["p", "line"] (fun vs H Q E => ∃ x y b c, vs = [x, y] ∧ PV K H x b ∧ LnV K H y c ∧ Tbs T.ts H ∧ (b = false → ∀ H', Same H H' → Rz T.C_BadValue (.str "p") H' E) ∧ (b = true → c = false → ∀ H', Same H H' → Rz T.C_BadValue (.str "line") H' E) ∧ (b = true → c = true → ∀ v H', Same H H' → Q v H')) := by
  refine T.F_nearest_edge.okX sc_nearest_edge (fun vs H Q E h => ?_) (fun cdv A outer s H vs Q E hr h => ?_)
  · obtain ⟨x, y, b, c, rfl, h1, h2, tb, k1, k2, k⟩ := h
    rfl
  · obtain ⟨x, y, b, c, rfl, h1, h2, tb, k1, k2, k⟩ := h
    refine ⟨_, (pss_cons (ps_expr (pe_call (ok_need T TB) (hr.mono (by omega)) rfl T.m_need T.F_need.kp T.b_need .nil (passes_call (takes_of rfl rfl rfl rfl) (fun _ _ _ _ h => h)) (pa_cons (pe_call (ok_is_point T TB) (hr.mono (by omega)) rfl T.m_is_point T.F_is_point.kp T.b_is_point .nil pass0 (pa_cons (pv 0) pa_nil)) (pa_cons pe_str pa_nil))))
      (pss_cons (ps_expr (pe_call (ok_need T TB) (hr.mono (by omega)) rfl T.m_need T.F_need.kp T.b_need .nil (passes_call (takes_of rfl rfl rfl rfl) (fun _ _ _ _ h => h)) (pa_cons (pe_call (ok_is_line T TB) (hr.mono (by omega)) rfl T.m_is_line T.F_is_line.kp T.b_is_line .nil pass0 (pa_cons (pv 1) pa_nil)) (pa_cons pe_str pa_nil))))
      (pss_cons (ps_setLc (i := 2) (own := [("edge", 6)]) (g := gName 6) (tt := tYes) rfl sc_nearest_edge.nd rfl rfl (sw_true rfl rfl rfl (by decide +kernel)) (pi_list (pe_call (ok_edges_along T TB) (hr.mono (by omega)) rfl T.m_edges_along T.F_edges_along.kp T.b_edges_along .nil pass0 (pa_cons (pv 1) pa_nil))) (blkOk_by (own := [("edge", 6)]) (N := N_nearest_edge) (sc := defScope s_nearest_edge) (by decide +kernel)) (fun _ _ _ _ _ => pg_name (i := 6) sc_nearest_edge.nd rfl (Or.inl rfl)) (fun _ _ _ _ _ => pts_nil) (fun _ _ _ _ _ => (pe_call (ok_gap_to T TB) (hr.mono (by omega)) rfl T.m_gap_to T.F_gap_to.kp T.b_gap_to .nil pass0 (pa_cons (pv 0) (pa_cons (pv 6) pa_nil)))))
      (pss_cons (ps_set (i := 3) sc_nearest_edge.nd rfl (Or.inl rfl) pe_int)
      (pss_cons (ps_for (passes_of rfl) rfl (pi_enum rfl T.n_enumerate (pa_cons (pv 2) pa_nil)) (pg_tup (by rfl) (pgs_cons (pg_name (i := 4) sc_nearest_edge.nd rfl (Or.inl rfl)) (pgs_cons (pg_name (i := 5) sc_nearest_edge.nd rfl (Or.inl rfl)) pgs_nil)))
        (pss_one (ps_if (pt_val (pe_call (ok_less T TB) (hr.mono (by omega)) rfl T.m_less T.F_less.kp T.b_less .nil pass0 (pa_cons (pv 5) (pa_cons (pe_ix (r := rIxL K) ix_list (pv 2) (pv 3) (fun _ _ => rfl)) pa_nil))))
          (pss_one (ps_set (i := 3) sc_nearest_edge.nd rfl (Or.inl rfl) (pv 4)))
          pss_nil)))
      (pss_one (ps_ret (pe_tup (pa_cons (pv 3) (pa_cons (pe_ix (r := rIxL K) ix_list (pv 2) (pv 3) (fun _ _ => rfl)) pa_nil)))))))))), ?_⟩
    refine ⟨_, rfl, x, b, rfl, h1, _, _, rfl, fun e1 => ?_, fun e1 => k1 e1 _ (Same.refl _)⟩
    refine ⟨_, rfl, y, c, rfl, h2, tb, fun H1 s1 => ⟨_, _, rfl, fun e2 => ?_, fun e2 => k2 e1 e2 _ s1⟩⟩
    subst e1 e2
    obtain ⟨p, ⟨px, py⟩, rfl, hp, op⟩ := h1.get
    obtain ⟨a, zs, rfl, ha, ok⟩ := h2.get
    have k : ∀ (r f : Addr) H', Same H H' → SqT K H' r [.int (bI (gF px py zs) (zs.length - 1) : Nat), .ref f] → Gp K H' f (gF px py zs (bI (gF px py zs) (zs.length - 1))) → Q (.ref r) H' := fun r f H' s _ _ => k rfl rfl _ _ s
    have hl : zs.length ≤ 1000 := by have := ok.2.1; omega
    obtain ⟨l1, l2, hne⟩ := id ok
    refine ⟨_, rfl, _, _, rfl, ha.same s1, l1, by omega, hne, fun l gs H2 s2 hgs hlen he => ⟨_, rfl, ⟨_, hgs⟩, fun D hD => ?_⟩⟩
    have s12 := s1.trans s2
    refine lc_it (walk_list (xs := gs.map V.ref)) (fun i H' => ∃ fs : List Addr, Same H2 H' ∧ H' D = some (.lst (fs.map V.ref)) ∧ fs.length = i ∧ ∀ (j : Nat) f, fs[j]? = some f → Gp K H' f (gF px py zs j)) ⟨[], same_new hD, upd_same, rfl, fun j f h => by cases h⟩ (fun i H' _ h => ?_) ?_ ?_
    · obtain ⟨_, s3, _⟩ := h
      exact s3.seq hgs
    · rintro i x H4 H5 hi ⟨fs, s4, hD4, hl4, hf⟩ ⟨rfl, f1⟩
      rw [List.getElem?_map] at f1
      obtain ⟨g, g1, rfl⟩ := Option.map_eq_some_iff.mp f1
      have hi2 : i < gs.length := (List.getElem?_eq_some_iff.mp g1).1
      obtain ⟨u, u1⟩ : ∃ u, zs[i]? = some u := ⟨_, List.getElem?_eq_getElem (by omega)⟩
      obtain ⟨w1, w2⟩ : ∃ u, zs[i + 1]? = some u := ⟨_, List.getElem?_eq_getElem (by omega)⟩
      have ou := ha.on _ (List.mem_of_getElem? u1)
      have ow := ha.on _ (List.mem_of_getElem? w2)
      have nd := hne i u w1 u1 w2
      have hs := (gap_ok op ou ow nd).1
      have hp4 := tSame (s12.trans s4) hp
      refine ⟨rfl, yesI ?_⟩
      refine iteT ?_
      have fin : ∀ H6 q, Same H5 H6 → Gp K H6 q (gF px py zs i) → ∃ acc, H6 D = some (.lst acc) ∧ acc.length < sizeLine ∧ ∃ fs : List Addr, Same H2 (upd H6 D (.lst (acc ++ [V.ref q]))) ∧ (upd H6 D (.lst (acc ++ [V.ref q]))) D = some (.lst (fs.map V.ref)) ∧ fs.length = i + 1 ∧ ∀ (j : Nat) f, fs[j]? = some f → Gp K (upd H6 D (.lst (acc ++ [V.ref q]))) f (gF px py zs j) := by
        intro H6 q e6 gq
        have hD6 := e6.get hD4
        refine ⟨_, hD6, by rw [List.length_map]; exact line_of (by omega), fs ++ [q], (s4.trans e6).put hD, by rw [upd_same, List.map_append]; rfl, by rw [List.length_append, hl4]; rfl, fun j f h => ?_⟩
        by_cases e : j < fs.length
        · rw [List.getElem?_append_left e] at h
          exact ((hf j f h).same e6).put ⟨_, hD6⟩
        · rw [List.getElem?_append_right (by omega)] at h
          have e2 : j = fs.length := by
            have := (List.getElem?_eq_some_iff.mp h).1
            simp at this
            omega
          subst e2
          rw [Nat.sub_self] at h
          cases h
          rw [hl4]
          exact gq.put ⟨_, hD6⟩
      rcases (he i g u w1 g1 u1 w2).same s4 with ee | ee
      · refine ⟨_, rfl, _, rfl, _, _, _, _, _, _, _, _, _, _, rfl, hp4, ee, op, fun H6 q e6 hq => fin H6 q e6 (.edge u1 w2 op ou ow nd ?_)⟩
        rw [(red_gap hs).1, (red_gap hs).2] at hq
        exact hq
      · refine ⟨_, rfl, _, rfl, _, _, _, _, _, _, _, _, _, _, rfl, hp4, ee, op, fun H6 q e6 hq => fin H6 q e6 (.edge u1 w2 op ou ow nd ?_)⟩
        have hs2 : 0 < sq (u.2.1 - w1.2.1) (u.2.2 - w1.2.2) := by rw [sq_flip]; exact hs
        rw [(red_gap hs2).1, (red_gap hs2).2, (gN_flip hs).1, (gN_flip hs).2] at hq
        exact hq
    · rintro H4 ⟨fs, s4, hD4, hl4, hf⟩
      have hfl : fs.length = gs.length := by rw [hl4, List.length_map]
      have at_ : ∀ {j : Nat}, j < fs.length → ∃ f, (fs.map V.ref)[j]? = some (.ref f) ∧ Gp K H4 f (gF px py zs j) := fun {j} hj => by
        have z := List.getElem?_eq_getElem hj
        exact ⟨fs[j], by rw [List.getElem?_map, z]; rfl, hf j _ z⟩
      refine ⟨_, rfl, _, _, rfl, SqL.of hD4, for_it (walk_enum (xs := fs.map V.ref)) (fun i σ H' => ∃ o4 o5, σ = [some (.ref p), some (.ref a), some (.ref D), some (.int (bI (gF px py zs) i : Nat)), o4, o5, none] ∧ Same H4 H') ⟨none, none, rfl, Same.refl _⟩ (fun i σ H' _ h => ?_) ?_ ?_⟩
      · obtain ⟨_, _, _, s5⟩ := h
        exact SqL.of (s5.get hD4)
      · rintro i x σ H5 H6 hi ⟨o4, o5, rfl, s5⟩ ⟨T1, x1, x2, rfl, hT, rfl, f1, f2⟩
        rw [List.length_map] at hi
        cases f1
        obtain ⟨g, f3, hg⟩ := at_ hi
        have f2 : (fs.map V.ref)[i]? = some x2 := f2
        rw [f3] at f2
        cases f2
        have hbi : bI (gF px py zs) i < fs.length := by
          cases i with
          | zero => exact hi
          | succ i => have := bI_le (gF px py zs) i; omega
        obtain ⟨g2, f4, hg2⟩ := at_ hbi
        have s6 := same_then (o := HO.tup [V.int i, V.ref g]) s5 hT
        refine ⟨_, _, rfl, tHere, rfl, _, _, rfl, _, _, rfl, rfl, ?_⟩
        refine ⟨_, rfl, _, rfl, _, rfl, _, _, _, _, rfl, rfl, SqL.of (s6.get hD4), atI_nat f4, _, _, _, _, rfl, hg.same s6, hg2.same s6, _, rfl, ifD (fun e => ?_) (fun e => ?_)⟩
        · exact ⟨_, rfl, _, _, by rw [bI, if_pos e]; rfl, s6⟩
        · exact ⟨_, _, by rw [bI, if_neg e]; rfl, s6⟩
      · rintro σ H5 ⟨o4, o5, rfl, s5⟩
        have en : (fs.map V.ref).length = zs.length - 1 := by rw [List.length_map]; omega
        rw [en]
        have hbi : bI (gF px py zs) (zs.length - 1) < fs.length := by
          obtain ⟨n, hn⟩ : ∃ n, zs.length - 1 = n + 1 := ⟨zs.length - 2, by omega⟩
          rw [hn]
          have := bI_le (gF px py zs) n
          omega
        obtain ⟨g2, f4, hg2⟩ := at_ hbi
        exact ⟨_, rfl, _, rfl, _, rfl, _, _, _, _, rfl, rfl, SqL.of (s5.get hD4), atI_nat f4, small rfl, fun r hr => k r g2 _ ((s12.trans s4).trans (same_then s5 hr)) tHere ((hg2.same s5).same (same_new hr))⟩
theorem ok_are_apart (T : Txt K mg) (TB : TxtB T base w) : FnOk P w K mg base CX0 1 T.a_are_apart T.d_are_apart ["first", "second"] (fun vs H Q _ => ∃ (g a c h e f : Addr) (ax ay bx dy ex ey fx fy : Int), vs = [.ref g, .ref h] ∧ SegAt K H g a c ax ay bx dy ∧ SegAt K H h e f ex ey fx fy ∧ ∀ H', Same H H' → Q (.bl (apartB (ax, ay) (bx, dy) (ex, ey) (fx, fy))) H') := by
  refine T.F_are_apart.ok sc_are_apart (fun vs H Q E h => ?_) (fun cdv A outer s H vs Q E hr h => ?_)
  · obtain ⟨g, a, c, h, e, f, ax, ay, bx, dy, ex, ey, fx, fy, rfl, hg, hh, k⟩ := h
    rfl
  · obtain ⟨g, a, c, h, e, f, ax, ay, bx, dy, ex, ey, fx, fy, rfl, hg, hh, k⟩ := h
    refine ⟨_, (pss_cons (ps_asg (pe_tup (pa_cons (pv 0) (pa_cons (pv 1) pa_nil))) (pg_tup (by rfl) (pgs_cons (pg_tup (by rfl) (pgs_cons (pg_name (i := 2) sc_are_apart.nd rfl (Or.inl rfl)) (pgs_cons (pg_name (i := 3) sc_are_apart.nd rfl (Or.inl rfl)) pgs_nil))) (pgs_cons (pg_tup (by rfl) (pgs_cons (pg_name (i := 4) sc_are_apart.nd rfl (Or.inl rfl)) (pgs_cons (pg_name (i := 5) sc_are_apart.nd rfl (Or.inl rfl)) pgs_nil))) pgs_nil))))
      (pss_cons (ps_if (PW.pt (pw_or (pt_cmpR op_lt (pe_ix (r := rIxT K) ix_tup (pv 3) pe_int (fun _ _ => rfl)) (pe_ix (r := rIxT K) ix_tup (pv 4) pe_int (fun _ _ => rfl)) (nomark _)) (pw_or1 (pt_cmpR op_lt (pe_ix (r := rIxT K) ix_tup (pv 5) pe_int (fun _ _ => rfl)) (pe_ix (r := rIxT K) ix_tup (pv 2) pe_int (fun _ _ => rfl)) (nomark _)))))
        (pss_one (ps_ret pe_bl))
        pss_nil)
      (pss_one (ps_ret (pe_or (pe_cmpR op_lt (pe_callB (call_max2 rfl) (by rfl) T.n_max (by decide +kernel) (pa_cons (pe_ix (r := rIxT K) ix_tup (pv 2) pe_int (fun _ _ => rfl)) (pa_cons (pe_ix (r := rIxT K) ix_tup (pv 3) pe_int (fun _ _ => rfl)) pa_nil))) (pe_callB (call_min2 rfl) (by rfl) T.n_min (by decide +kernel) (pa_cons (pe_ix (r := rIxT K) ix_tup (pv 4) pe_int (fun _ _ => rfl)) (pa_cons (pe_ix (r := rIxT K) ix_tup (pv 5) pe_int (fun _ _ => rfl)) pa_nil))) (nomark _)) (pe_one (pe_cmpR op_lt (pe_callB (call_max2 rfl) (by rfl) T.n_max (by decide +kernel) (pa_cons (pe_ix (r := rIxT K) ix_tup (pv 4) pe_int (fun _ _ => rfl)) (pa_cons (pe_ix (r := rIxT K) ix_tup (pv 5) pe_int (fun _ _ => rfl)) pa_nil))) (pe_callB (call_min2 rfl) (by rfl) T.n_min (by decide +kernel) (pa_cons (pe_ix (r := rIxT K) ix_tup (pv 2) pe_int (fun _ _ => rfl)) (pa_cons (pe_ix (r := rIxT K) ix_tup (pv 3) pe_int (fun _ _ => rfl)) pa_nil))) (nomark _)))))))), ?_⟩
    refine ⟨_, rfl, _, rfl, small rfl, fun p hp => ?_⟩
    refine ⟨_, _, rfl, tHere, rfl, _, _, rfl, _, _, rfl, tOver hp hg.g, rfl, _, _, rfl, _, _, rfl, rfl, _, _, rfl, _, _, rfl, tOver hp hh.g, rfl, _, _, rfl, _, _, rfl, rfl, rfl, ?_⟩
    
    have hg1 := hg.same (same_new (o := HO.tup [.ref g, .ref h]) hp)
    have hh1 := hh.same (same_new (o := HO.tup [.ref g, .ref h]) hp)
    have k := k _ (same_new (o := HO.tup [.ref g, .ref h]) hp)
    unfold apartB mx mn at k
    dsimp only at k
    refine ⟨_, rfl, _, _, _, _, rfl, rfl, hg1.c, at0, _, rfl, _, _, _, _, rfl, rfl, hh1.a, at0, _, _, rfl, rfl, _, rfl, ifD (fun q => ?_) (fun q => ?_)⟩
    · rw [decide_eq_true q, Bool.true_or, Bool.true_or] at k
      exact k
    rw [decide_eq_false q, Bool.false_or] at k
    refine ⟨_, rfl, _, _, _, _, rfl, rfl, hh1.c, at0, _, rfl, _, _, _, _, rfl, rfl, hg1.a, at0, _, _, rfl, rfl, _, rfl, ifD (fun q => ?_) (fun q => ?_)⟩
    · rw [decide_eq_true q, Bool.true_or] at k
      exact k
    rw [decide_eq_false q, Bool.false_or] at k
    refine ⟨_, rfl, _, _, _, _, rfl, rfl, hg1.a, at1, _, rfl, _, _, _, _, rfl, rfl, hg1.c, at1, _, _, rfl, _, rfl, _, _, _, _, rfl, rfl, hh1.a, at1, _, rfl, _, _, _, _, rfl, rfl, hh1.c, at1, _, _, rfl, _, _, rfl, rfl, ?_⟩
    refine ⟨_, rfl, ifB (fun q => ?_) (fun q => ?_)⟩
    · have q : decide ((if dy > ay then dy else ay) < (if fy < ey then fy else ey)) = true := q
      rw [q, Bool.true_or] at k
      exact k
    have q : decide ((if dy > ay then dy else ay) < (if fy < ey then fy else ey)) = false := q
    rw [q, Bool.false_or] at k
    exact ⟨_, rfl, _, _, _, _, rfl, rfl, hh1.a, at1, _, rfl, _, _, _, _, rfl, rfl, hh1.c, at1, _, _, rfl, _, rfl, _, _, _, _, rfl, rfl, hg1.a, at1, _, rfl, _, _, _, _, rfl, rfl, hg1.c, at1, _, _, rfl, _, _, rfl, rfl, k⟩
theorem ok_meeting_on_line (T : Txt K mg) (TB : TxtB T base w) : FnOk P w K mg base CX0 1 T.a_meeting_on_line T.d_meeting_on_line ["first", "second"] (fun vs H Q _ => ∃ (g a c h e f : Addr) (ax ay bx dy ex ey fx fy : Int), vs = [.ref g, .ref h] ∧ SegAt K H g a c ax ay bx dy ∧ SegAt K H h e f ex ey fx fy ∧ ∀ v H', Same H H' → MtAt K H' v (lineM (ax, ay) (bx, dy) (ex, ey) (fx, fy)) → Q v H') := by
  refine T.F_meeting_on_line.ok sc_meeting_on_line (fun vs H Q E h => ?_) (fun cdv A outer s H vs Q E hr h => ?_)
  · obtain ⟨g, a, c, h, e, f, ax, ay, bx, dy, ex, ey, fx, fy, rfl, hg, hh, k⟩ := h
    rfl
  · obtain ⟨g, a, c, h, e, f, ax, ay, bx, dy, ex, ey, fx, fy, rfl, hg, hh, k⟩ := h
    refine ⟨_, (pss_cons (ps_set (i := 2) sc_meeting_on_line.nd rfl (Or.inl rfl) (pe_callB (call_maxP rfl hr.units) (by rfl) T.n_max (by decide +kernel) (pa_cons (pe_ix (r := rIxT K) ix_tup (pv 0) pe_int (fun _ _ => rfl)) (pa_cons (pe_ix (r := rIxT K) ix_tup (pv 1) pe_int (fun _ _ => rfl)) pa_nil))))
      (pss_cons (ps_set (i := 3) sc_meeting_on_line.nd rfl (Or.inl rfl) (pe_callB (call_minP rfl hr.units) (by rfl) T.n_min (by decide +kernel) (pa_cons (pe_ix (r := rIxT K) ix_tup (pv 0) pe_int (fun _ _ => rfl)) (pa_cons (pe_ix (r := rIxT K) ix_tup (pv 1) pe_int (fun _ _ => rfl)) pa_nil))))
      (pss_cons (ps_if (pt_cmpR (op_gtP hr.units) (pv 2) (pv 3) (nomark _))
        (pss_one (ps_ret (pe_tup (pa_cons pe_str pa_nil))))
        pss_nil)
      (pss_cons (ps_if (pt_cmpR (op_eqP hr.units) (pv 2) (pv 3) (nomark _))
        (pss_one (ps_ret (pe_tup (pa_cons pe_str (pa_cons (pv 2) pa_nil)))))
        pss_nil)
      (pss_one (ps_ret (pe_tup (pa_cons pe_str (pa_cons (pv 2) (pa_cons (pv 3) pa_nil)))))))))), ?_⟩
    refine ⟨_, rfl, _, _, _, _, rfl, rfl, hg.g, at0, _, rfl, _, _, _, _, rfl, rfl, hh.g, at0, _, _, _, _, _, _, rfl, hg.a, hh.a, ?_⟩
    refine ⟨_, rfl, _, _, _, _, rfl, rfl, hg.g, at1, _, rfl, _, _, _, _, rfl, rfl, hh.g, at1, _, _, _, _, _, _, rfl, hg.c, hh.c, ?_⟩
    dsimp only
    have h1 : SqT K H (if ltP ax ay ex ey = true then e else a) [.int (low (ax, ay) (ex, ey)).1, .int (low (ax, ay) (ex, ey)).2] := by
      by_cases l : ltP ax ay ex ey = true
      · have e1 : low (ax, ay) (ex, ey) = (ex, ey) := if_pos l
        rw [if_pos l, e1]; exact hh.a
      · have e1 : low (ax, ay) (ex, ey) = (ax, ay) := if_neg l
        rw [if_neg l, e1]; exact hg.a
    have h2 : SqT K H (if ltP fx fy bx dy = true then f else c) [.int (high (bx, dy) (fx, fy)).1, .int (high (bx, dy) (fx, fy)).2] := by
      by_cases l : ltP fx fy bx dy = true
      · have e1 : high (bx, dy) (fx, fy) = (fx, fy) := if_pos l
        rw [if_pos l, e1]; exact hh.c
      · have e1 : high (bx, dy) (fx, fy) = (bx, dy) := if_neg l
        rw [if_neg l, e1]; exact hg.c
    unfold lineM at k
    generalize (if ltP ax ay ex ey = true then e else a) = lo at h1 ⊢
    generalize (if ltP fx fy bx dy = true then f else c) = hi at h2 ⊢
    generalize low (ax, ay) (ex, ey) = L at h1 k
    generalize high (bx, dy) (fx, fy) = R at h2 k
    refine ⟨_, rfl, _, rfl, _, _, _, _, _, _, rfl, rfl, h1, h2, _, rfl, ifB (fun q => ?_) (fun q => ?_)⟩
    · have q : lt R L = true := q
      rw [if_pos q] at k
      exact ⟨small rfl, fun p hp => k _ _ (same_new hp) ⟨p, rfl, tHere⟩⟩
    have q : ¬ lt R L = true := fun z => by
      have z : ltP R.1 R.2 L.1 L.2 = true := z
      rw [q] at z; cases z
    rw [if_neg q] at k
    refine ⟨_, rfl, _, rfl, _, _, _, _, _, _, rfl, rfl, h1, h2, _, rfl, ifD (fun z => ?_) (fun z => ?_)⟩
    · rw [if_pos (pt_eq z.1 z.2)] at k
      exact ⟨_, rfl, small rfl, fun p hp => k _ _ (same_new hp) ⟨p, _, rfl, tHere, tOver hp h1⟩⟩
    · rw [if_neg (fun w => z (by rw [w]; exact ⟨rfl, rfl⟩))] at k
      exact ⟨_, rfl, _, rfl, small rfl, fun p hp => k _ _ (same_new hp) ⟨p, _, _, rfl, tHere, tOver hp h1, tOver hp h2⟩⟩
theorem ok_common_end (T : Txt K mg) (TB : TxtB T base w) : FnOk P w K mg base CX0 3 T.a_common_end T.d_common_end ["first", "second"] (fun vs H Q _ => ∃ (g a c h e f : Addr) (ax ay bx dy ex ey fx fy : Int), vs = [.ref g, .ref h] ∧ SegAt K H g a c ax ay bx dy ∧ SegAt K H h e f ex ey fx fy ∧ ∀ v, CeAt K H v (endM (ax, ay) (bx, dy) (ex, ey) (fx, fy)) → Q v H) := by
  refine T.F_common_end.ok sc_common_end (fun vs H Q E h => ?_) (fun cdv A outer s H vs Q E hr h => ?_)
  · obtain ⟨g, a, c, h, e, f, ax, ay, bx, dy, ex, ey, fx, fy, rfl, hg, hh, k⟩ := h
    rfl
  · obtain ⟨g, a, c, h, e, f, ax, ay, bx, dy, ex, ey, fx, fy, rfl, hg, hh, k⟩ := h
    refine ⟨_, (pss_cons (ps_for PassesOwn.never rfl (pi_tup (pv 0)) (pg_name (i := 2) sc_common_end.nd rfl (Or.inl rfl))
        (pss_one (ps_if (pt_val (pe_call (ok_is_on T TB) (hr.mono (by omega)) rfl T.m_is_on T.F_is_on.kp T.b_is_on .nil pass0 (pa_cons (pv 2) (pa_cons (pv 1) pa_nil))))
          (pss_one (ps_ret (pv 2)))
          pss_nil)))
      (pss_cons (ps_for PassesOwn.never rfl (pi_tup (pv 1)) (pg_name (i := 2) sc_common_end.nd rfl (Or.inl rfl))
        (pss_one (ps_if (pt_val (pe_call (ok_is_on T TB) (hr.mono (by omega)) rfl T.m_is_on T.F_is_on.kp T.b_is_on .nil pass0 (pa_cons (pv 2) (pa_cons (pv 0) pa_nil))))
          (pss_one (ps_ret (pv 2)))
          pss_nil)))
      (pss_one (ps_ret pe_non)))), ?_⟩
    refine ⟨_, rfl, _, rfl, ⟨_, hg.g⟩, for_tup (K := K) (a := g) (xs := [.ref a, .ref c]) (fun i σ' H' => H' = H ∧ ∃ v, σ' = [some (.ref g), some (.ref h), v] ∧ (1 ≤ i → on (ax, ay) (ex, ey) (fx, fy) = false) ∧ (2 ≤ i → on (bx, dy) (ex, ey) (fx, fy) = false))
      ⟨rfl, none, rfl, fun z => absurd z (by decide), fun z => absurd z (by decide)⟩ (fun i σ' H' _ z => by rw [z.1]; exact hg.g) ?_ ?_⟩
    · rintro i x σ' H' hx ⟨rfl, v, rfl, n1, n2⟩
      have hi : i < 2 := (List.getElem?_eq_some_iff.mp hx).1
      rcases (show i = 0 ∨ i = 1 by omega) with rfl | rfl <;> cases hx
      · refine ⟨_, rfl, _, rfl, _, _, _, _, _, _, _, _, _, _, rfl, hg.a, hh, hg.oa, _, rfl, ifB (fun q => ?_) (fun q => ?_)⟩
        · have z : endM (ax, ay) (bx, dy) (ex, ey) (fx, fy) = some (ax, ay) := if_pos q
          rw [z] at k
          exact ⟨_, rfl, k _ ⟨_, rfl, hg.a⟩⟩
        · exact ⟨rfl, _, rfl, fun _ => q, fun z => absurd z (by decide)⟩
      · have n1 := n1 (by decide)
        refine ⟨_, rfl, _, rfl, _, _, _, _, _, _, _, _, _, _, rfl, hg.c, hh, hg.oc, _, rfl, ifB (fun q => ?_) (fun q => ?_)⟩
        · have z : endM (ax, ay) (bx, dy) (ex, ey) (fx, fy) = some (bx, dy) := by
            have q : on (bx, dy) (ex, ey) (fx, fy) = true := q
            unfold endM
            rw [n1, q]; rfl
          rw [z] at k
          exact ⟨_, rfl, k _ ⟨_, rfl, hg.c⟩⟩
        · exact ⟨rfl, _, rfl, fun _ => n1, fun _ => q⟩
    rintro σ' H' ⟨rfl, v, rfl, n1, n2⟩
    have n1 := n1 (Nat.le_of_ble_eq_true rfl)
    have n2 := n2 (Nat.le_of_ble_eq_true rfl)
    refine ⟨_, rfl, _, rfl, ⟨_, hh.g⟩, for_tup (K := K) (a := h) (xs := [.ref e, .ref f]) (fun i σ' H'' => H'' = H' ∧ ∃ v, σ' = [some (.ref g), some (.ref h), v] ∧ (1 ≤ i → on (ex, ey) (ax, ay) (bx, dy) = false) ∧ (2 ≤ i → on (fx, fy) (ax, ay) (bx, dy) = false))
      ⟨rfl, _, rfl, fun z => absurd z (by decide), fun z => absurd z (by decide)⟩ (fun i σ' H' _ z => by rw [z.1]; exact hh.g) ?_ ?_⟩
    · rintro i x σ' H' hx ⟨rfl, v, rfl, n3, n4⟩
      have hi : i < 2 := (List.getElem?_eq_some_iff.mp hx).1
      rcases (show i = 0 ∨ i = 1 by omega) with rfl | rfl <;> cases hx
      · refine ⟨_, rfl, _, rfl, _, _, _, _, _, _, _, _, _, _, rfl, hh.a, hg, hh.oa, _, rfl, ifB (fun q => ?_) (fun q => ?_)⟩
        · have z : endM (ax, ay) (bx, dy) (ex, ey) (fx, fy) = some (ex, ey) := by
            have q : on (ex, ey) (ax, ay) (bx, dy) = true := q
            unfold endM
            rw [n1, n2, q]; rfl
          rw [z] at k
          exact ⟨_, rfl, k _ ⟨_, rfl, hh.a⟩⟩
        · exact ⟨rfl, _, rfl, fun _ => q, fun z => absurd z (by decide)⟩
      · have n3 := n3 (by decide)
        refine ⟨_, rfl, _, rfl, _, _, _, _, _, _, _, _, _, _, rfl, hh.c, hg, hh.oc, _, rfl, ifB (fun q => ?_) (fun q => ?_)⟩
        · have z : endM (ax, ay) (bx, dy) (ex, ey) (fx, fy) = some (fx, fy) := by
            have q : on (fx, fy) (ax, ay) (bx, dy) = true := q
            unfold endM
            rw [n1, n2, n3, q]; rfl
          rw [z] at k
          exact ⟨_, rfl, k _ ⟨_, rfl, hh.c⟩⟩
        · exact ⟨rfl, _, rfl, fun _ => n3, fun _ => q⟩
    rintro σ' H' ⟨rfl, v, rfl, n3, n4⟩
    have z : endM (ax, ay) (bx, dy) (ex, ey) (fx, fy) = none := by
      unfold endM
      rw [n1, n2, n3 (Nat.le_of_ble_eq_true rfl), n4 (Nat.le_of_ble_eq_true rfl)]; rfl
    rw [z] at k
    exact k _ rfl
theorem ok_cut_point (T : Txt K mg) (TB : TxtB T base w) : FnOk P w K mg base CX0 2 T.a_cut_point T.d_cut_point ["first", "before", "after"] (fun vs H Q _ => ∃ (g a c : Addr) (ax ay bx dy be af : Int), vs = [.ref g, .int be, .int af] ∧ SegAt K H g a c ax ay bx dy ∧ be - af ≠ 0 ∧ be.natAbs ≤ 2 ^ 23 ∧ af.natAbs ≤ 2 ^ 23 ∧ ∀ (p q r : Addr) H', Same H H' → SqT K H' p [.ref q, .ref r] → SqT K H' q [.int (lowN (cutN ax bx be af) (be - af)), .int (lowD (cutN ax bx be af) (be - af))] → SqT K H' r [.int (lowN (cutN ay dy be af) (be - af)), .int (lowD (cutN ay dy be af) (be - af))] → Q (.ref p) H') := by
  refine T.F_cut_point.ok sc_cut_point (fun vs H Q E h => ?_) (fun cdv A outer s H vs Q E hr h => ?_)
  · obtain ⟨g, a, c, ax, ay, bx, dy, be, af, rfl, hg, hw, b1, b2, k⟩ := h
    rfl
  · obtain ⟨g, a, c, ax, ay, bx, dy, be, af, rfl, hg, hw, b1, b2, k⟩ := h
    refine ⟨_, (pss_cons (ps_asg (pv 0) (pg_tup (by rfl) (pgs_cons (pg_name (i := 3) sc_cut_point.nd rfl (Or.inl rfl)) (pgs_cons (pg_name (i := 4) sc_cut_point.nd rfl (Or.inl rfl)) pgs_nil))))
      (pss_cons (ps_set (i := 5) sc_cut_point.nd rfl (Or.inl rfl) (pe_op op_sub (pv 1) (pv 2)))
      (pss_one (ps_ret (pe_tup (pa_cons (pe_call (ok_lowest T TB) (hr.mono (by omega)) rfl T.m_lowest T.F_lowest.kp T.b_lowest .nil pass0 (pa_cons (pe_op op_add (pe_op op_mul (pe_ix (r := rIxT K) ix_tup (pv 3) pe_int (fun _ _ => rfl)) (pv 5)) (pe_op op_mul (pv 1) (pe_op op_sub (pe_ix (r := rIxT K) ix_tup (pv 4) pe_int (fun _ _ => rfl)) (pe_ix (r := rIxT K) ix_tup (pv 3) pe_int (fun _ _ => rfl))))) (pa_cons (pv 5) pa_nil))) (pa_cons (pe_call (ok_lowest T TB) (hr.mono (by omega)) rfl T.m_lowest T.F_lowest.kp T.b_lowest .nil pass0 (pa_cons (pe_op op_add (pe_op op_mul (pe_ix (r := rIxT K) ix_tup (pv 3) pe_int (fun _ _ => rfl)) (pv 5)) (pe_op op_mul (pv 1) (pe_op op_sub (pe_ix (r := rIxT K) ix_tup (pv 4) pe_int (fun _ _ => rfl)) (pe_ix (r := rIxT K) ix_tup (pv 3) pe_int (fun _ _ => rfl))))) (pa_cons (pv 5) pa_nil))) pa_nil))))))), ?_⟩
    refine ⟨_, rfl, _, _, rfl, hg.g, rfl, _, _, rfl, _, _, rfl, rfl, ?_⟩
    refine ⟨_, rfl, _, rfl, _, _, rfl, rfl, ?_⟩
    have oa0 : ax.natAbs ≤ 2 ^ 11 := by have z := hg.oa; unfold On at z; omega
    have oa1 : ay.natAbs ≤ 2 ^ 11 := by have z := hg.oa; unfold On at z; omega
    have bw : (be - af).natAbs ≤ 2 ^ 24 := sub_le b1 b2
    have v := hg.oc.d hg.oa
    have c0 : (cutN ax bx be af).natAbs ≤ 2 ^ 36 := add_le (x := 35) (mul_le (x := 11) (y := 24) oa0 bw) (pow_up (mul_le (x := 23) (y := 11) b1 v.1))
    have c1 : (cutN ay dy be af).natAbs ≤ 2 ^ 36 := add_le (x := 35) (mul_le (x := 11) (y := 24) oa1 bw) (pow_up (mul_le (x := 23) (y := 11) b1 v.2))
    refine ⟨_, rfl, _, _, _, _, rfl, rfl, hg.a, at0, _, rfl, _, _, rfl, rfl, .inl (m64 oa0), _, rfl, _, rfl, _, _, _, _, rfl, rfl, hg.c, at0, _, rfl, _, _, _, _, rfl, rfl, hg.a, at0, _, _, rfl, rfl, _, _, rfl, rfl, .inl (m64 b1), _, _, rfl, rfl, _, rfl, _, _, rfl, hw, pow_up c0, pow_up bw, fun q hq => ?_⟩
    have hg1 := hg.same (same_new (o := HO.tup [.int (lowN (cutN ax bx be af) (be - af)), .int (lowD (cutN ax bx be af) (be - af))]) hq)
    refine ⟨_, rfl, _, _, _, _, rfl, rfl, hg1.a, at1, _, rfl, _, _, rfl, rfl, .inl (m64 oa1), _, rfl, _, rfl, _, _, _, _, rfl, rfl, hg1.c, at1, _, rfl, _, _, _, _, rfl, rfl, hg1.a, at1, _, _, rfl, rfl, _, _, rfl, rfl, .inl (m64 b1), _, _, rfl, rfl, _, rfl, _, _, rfl, hw, pow_up c1, pow_up bw, fun r hr => ?_⟩
    refine ⟨small rfl, fun p hp => k p q r _ (same_then (same_then (same_new hq) hr) hp) tHere (tOver hp (tOver hr tHere)) (tOver hp tHere)⟩
theorem ok_meeting_of (T : Txt K mg) (TB : TxtB T base w) : FnOk P w K mg base CX0 4 T.a_meeting_of T.d_meeting_of ["first", "second"] (fun vs H Q _ => ∃ (g a c h e f : Addr) (ax ay bx dy ex ey fx fy : Int), vs = [.ref g, .ref h] ∧ SegAt K H g a c ax ay bx dy ∧ SegAt K H h e f ex ey fx fy ∧ ∀ v H', Same H H' → MtAt K H' v (meetM (ax, ay) (bx, dy) (ex, ey) (fx, fy)) → Q v H') := by
  refine T.F_meeting_of.ok sc_meeting_of (fun vs H Q E h => ?_) (fun cdv A outer s H vs Q E hr h => ?_)
  · obtain ⟨g, a, c, h, e, f, ax, ay, bx, dy, ex, ey, fx, fy, rfl, hg, hh, k⟩ := h
    rfl
  · obtain ⟨g, a, c, h, e, f, ax, ay, bx, dy, ex, ey, fx, fy, rfl, hg, hh, k⟩ := h
    refine ⟨_, (pss_cons (ps_if (pt_val (pe_call (ok_are_apart T TB) (hr.mono (by omega)) rfl T.m_are_apart T.F_are_apart.kp T.b_are_apart .nil pass0 (pa_cons (pv 0) (pa_cons (pv 1) pa_nil))))
        (pss_one (ps_ret (pe_tup (pa_cons pe_str pa_nil))))
        pss_nil)
      (pss_cons (ps_asg (pe_tup (pa_cons (pv 0) (pa_cons (pv 1) pa_nil))) (pg_tup (by rfl) (pgs_cons (pg_tup (by rfl) (pgs_cons (pg_name (i := 2) sc_meeting_of.nd rfl (Or.inl rfl)) (pgs_cons (pg_name (i := 3) sc_meeting_of.nd rfl (Or.inl rfl)) pgs_nil))) (pgs_cons (pg_tup (by rfl) (pgs_cons (pg_name (i := 4) sc_meeting_of.nd rfl (Or.inl rfl)) (pgs_cons (pg_name (i := 5) sc_meeting_of.nd rfl (Or.inl rfl)) pgs_nil))) pgs_nil))))
      (pss_cons (ps_par (i := 6) (j := 7) (by rfl) sc_meeting_of.nd rfl rfl (by decide) rfl rfl (pa_cons (pe_call (ok_turn_of T TB) (hr.mono (by omega)) rfl T.m_turn_of T.F_turn_of.kp T.b_turn_of .nil pass0 (pa_cons (pv 4) (pa_cons (pv 5) (pa_cons (pv 2) pa_nil)))) (pa_cons (pe_call (ok_turn_of T TB) (hr.mono (by omega)) rfl T.m_turn_of T.F_turn_of.kp T.b_turn_of .nil pass0 (pa_cons (pv 4) (pa_cons (pv 5) (pa_cons (pv 3) pa_nil)))) pa_nil)) (by rfl))
      (pss_cons (ps_if (PW.pt (pw_and (pt_cmpR op_eq (pv 6) pe_int (nomark _)) (pw_and1 (pt_cmpR op_eq (pv 7) pe_int (nomark _)))))
        (pss_one (ps_ret (pe_call (ok_meeting_on_line T TB) (hr.mono (by omega)) rfl T.m_meeting_on_line T.F_meeting_on_line.kp T.b_meeting_on_line .nil pass0 (pa_cons (pv 0) (pa_cons (pv 1) pa_nil)))))
        pss_nil)
      (pss_cons (ps_set (i := 8) sc_meeting_of.nd rfl (Or.inl rfl) (pe_call (ok_common_end T TB) (hr.mono (by omega)) rfl T.m_common_end T.F_common_end.kp T.b_common_end .nil pass0 (pa_cons (pv 0) (pa_cons (pv 1) pa_nil))))
      (pss_cons (ps_if (pt_cmpR op_notN (pv 8) pe_non (nomark _))
        (pss_one (ps_ret (pe_tup (pa_cons pe_str (pa_cons (pv 8) pa_nil)))))
        pss_nil)
      (pss_cons (ps_if (PW.pt (pw_and (pt_cmpR op_lt (pe_op op_mul (pv 6) (pv 7)) pe_int (nomark _)) (pw_and1 (pt_cmpR op_lt (pe_op op_mul (pe_call (ok_turn_of T TB) (hr.mono (by omega)) rfl T.m_turn_of T.F_turn_of.kp T.b_turn_of .nil pass0 (pa_cons (pv 2) (pa_cons (pv 3) (pa_cons (pv 4) pa_nil)))) (pe_call (ok_turn_of T TB) (hr.mono (by omega)) rfl T.m_turn_of T.F_turn_of.kp T.b_turn_of .nil pass0 (pa_cons (pv 2) (pa_cons (pv 3) (pa_cons (pv 5) pa_nil))))) pe_int (nomark _)))))
        (pss_cons (ps_asg (pe_call (ok_cut_point T TB) (hr.mono (by omega)) rfl T.m_cut_point T.F_cut_point.kp T.b_cut_point .nil pass0 (pa_cons (pv 0) (pa_cons (pv 6) (pa_cons (pv 7) pa_nil)))) (pg_tup (by rfl) (pgs_cons (pg_name (i := 9) sc_meeting_of.nd rfl (Or.inl rfl)) (pgs_cons (pg_name (i := 10) sc_meeting_of.nd rfl (Or.inl rfl)) pgs_nil))))
        (pss_one (ps_ret (pe_tup (pa_cons pe_str (pa_cons (pv 9) (pa_cons (pv 10) pa_nil)))))))
        pss_nil)
      (pss_one (ps_ret (pe_tup (pa_cons pe_str pa_nil))))))))))), ?_⟩
    refine ⟨_, rfl, _, rfl, _, _, _, _, _, _, _, _, _, _, _, _, _, _, rfl, hg, hh, fun H1 e1 => ⟨_, rfl, ifB (fun q => ?_) (fun q => ?_)⟩⟩
    · have z : meetM (ax, ay) (bx, dy) (ex, ey) (fx, fy) = .none := if_pos q
      rw [z] at k
      exact ⟨small rfl, fun p hp => k _ _ (same_then e1 hp) ⟨p, rfl, tHere⟩⟩
    have q : ¬ apartB (ax, ay) (bx, dy) (ex, ey) (fx, fy) = true := by rw [q]; exact Bool.false_ne_true
    have hg := hg.same e1
    have hh := hh.same e1
    refine ⟨_, rfl, _, rfl, small rfl, fun p hp => ?_⟩
    refine ⟨_, _, rfl, tHere, rfl, _, _, rfl, _, _, rfl, tOver hp hg.g, rfl, _, _, rfl, _, _, rfl, rfl, _, _, rfl, _, _, rfl, tOver hp hh.g, rfl, _, _, rfl, _, _, rfl, rfl, rfl, ?_⟩
    
    have hg := hg.same (same_new (o := HO.tup [.ref g, .ref h]) hp)
    have hh := hh.same (same_new (o := HO.tup [.ref g, .ref h]) hp)
    have e2 := same_then e1 (o := HO.tup [.ref g, .ref h]) hp
    generalize upd H1 p (HO.tup [.ref g, .ref h]) = H2 at hg hh e2 ⊢
    have t1 := turn_le hh.oa hh.oc hg.oa
    have t2 := turn_le hh.oa hh.oc hg.oc
    have t3 := turn_le hg.oa hg.oc hh.oa
    refine ⟨_, rfl, _, rfl, _, rfl, _, _, _, _, _, _, _, _, _, rfl, hh.a, hh.c, hg.a, ⟨hh.oa.sx, hh.oc.sx, hh.oa.sy, hh.oc.sy⟩, _, rfl, _, rfl, _, rfl, _, _, _, _, _, _, _, _, _, rfl, hh.a, hh.c, hg.c, ⟨hh.oa.sx, hh.oc.sx, hh.oa.sy, hh.oc.sy⟩, _, _, rfl, ?_⟩
    by_cases z : tn (ex, ey) (fx, fy) (ax, ay) = 0 ∧ tn (ex, ey) (fx, fy) (bx, dy) = 0
    · refine ⟨_, rfl, rfl, _, rfl, ifD (fun _ => ⟨_, rfl, rfl, _, rfl, ifD (fun _ => ?_) (fun y => absurd (congrArg V.int z.2) y)⟩) (fun y => absurd (congrArg V.int z.1) y)⟩
      have w : meetM (ax, ay) (bx, dy) (ex, ey) (fx, fy) = lineM (ax, ay) (bx, dy) (ex, ey) (fx, fy) := by unfold meetM; rw [if_neg q, if_pos z]
      rw [w] at k
      exact ⟨_, rfl, _, rfl, _, _, _, _, _, _, _, _, _, _, _, _, _, _, rfl, hg, hh, fun v H' e => k v H' (e2.trans e)⟩
    refine ⟨_, rfl, rfl, _, rfl, ifD (fun y1 => ⟨_, rfl, rfl, _, rfl, ifD (fun y2 => absurd ⟨int0 y1, int0 y2⟩ z) (fun _ => ?_)⟩) (fun _ => ?_)⟩
    all_goals
      refine ⟨_, rfl, _, rfl, _, _, _, _, _, _, _, _, _, _, _, _, _, _, rfl, hg, hh, fun v hv => ?_⟩
      cases em : endM (ax, ay) (bx, dy) (ex, ey) (fx, fy) with
      | some R =>
        rw [em] at hv
        obtain ⟨r, rfl, hr⟩ := hv
        have w : meetM (ax, ay) (bx, dy) (ex, ey) (fx, fy) = .touch R := by unfold meetM; rw [if_neg q, if_neg z, em]
        rw [w] at k
        exact ⟨_, rfl, rfl, _, rfl, ifND (fun _ => ⟨_, rfl, small rfl, fun p hp => k _ _ (same_then e2 hp) ⟨p, r, rfl, tHere, tOver hp hr⟩⟩) (fun y => by cases y)⟩
      | none =>
        rw [em] at hv
        have hv : v = V.non := hv
        subst hv
        refine ⟨_, rfl, rfl, _, rfl, ifND (fun y => absurd rfl y) (fun _ => ?_)⟩
        have w : meetM (ax, ay) (bx, dy) (ex, ey) (fx, fy) = if tn (ex, ey) (fx, fy) (ax, ay) * tn (ex, ey) (fx, fy) (bx, dy) < 0 ∧ tn (ax, ay) (bx, dy) (ex, ey) * tn (ax, ay) (bx, dy) (fx, fy) < 0 then cross (ax, ay) (bx, dy) (tn (ex, ey) (fx, fy) (ax, ay)) (tn (ex, ey) (fx, fy) (bx, dy)) else .none := by unfold meetM; rw [if_neg q, if_neg z, em]
        rw [w] at k
        by_cases y : tn (ex, ey) (fx, fy) (ax, ay) * tn (ex, ey) (fx, fy) (bx, dy) < 0 ∧ tn (ax, ay) (bx, dy) (ex, ey) * tn (ax, ay) (bx, dy) (fx, fy) < 0
        · rw [if_pos y] at k
          refine ⟨_, rfl, _, rfl, _, _, rfl, rfl, .inl (m64 t1), _, _, rfl, rfl, _, rfl, ifD (fun _ => ?_) (fun n => absurd y.1 n)⟩
          refine ⟨_, rfl, _, rfl, _, rfl, _, _, _, _, _, _, _, _, _, rfl, hg.a, hg.c, hh.a, ⟨hg.oa.sx, hg.oc.sx, hg.oa.sy, hg.oc.sy⟩, _, rfl, _, rfl, _, rfl, _, _, _, _, _, _, _, _, _, rfl, hg.a, hg.c, hh.c, ⟨hg.oa.sx, hg.oc.sx, hg.oa.sy, hg.oc.sy⟩, _, _, rfl, rfl, .inl (m64 t3), _, _, rfl, rfl, _, rfl, ifD (fun _ => ?_) (fun n => absurd y.2 n)⟩
          have hw : turnI ex ey fx fy ax ay - turnI ex ey fx fy bx dy ≠ 0 := by
            have := neg_signs y.1
            unfold tn at this
            dsimp only at this
            omega
          refine ⟨_, rfl, _, rfl, _, rfl, _, _, _, _, _, _, _, _, _, rfl, hg, hw, t1, t2, fun p1 q1 r1 H3 e3 hp1 hq1 hr1 => ?_⟩
          refine ⟨_, _, rfl, hp1, rfl, _, _, rfl, _, _, rfl, rfl, ?_⟩
          exact ⟨_, rfl, _, rfl, small rfl, fun t ht => k _ _ (same_then (e2.trans e3) ht) ⟨t, q1, r1, rfl, tHere, tOver ht hq1, tOver ht hr1⟩⟩
        · rw [if_neg y] at k
          refine ⟨_, rfl, _, rfl, _, _, rfl, rfl, .inl (m64 t1), _, _, rfl, rfl, _, rfl, ifD (fun n1 => ?_) (fun _ => ?_)⟩
          · refine ⟨_, rfl, _, rfl, _, rfl, _, _, _, _, _, _, _, _, _, rfl, hg.a, hg.c, hh.a, ⟨hg.oa.sx, hg.oc.sx, hg.oa.sy, hg.oc.sy⟩, _, rfl, _, rfl, _, rfl, _, _, _, _, _, _, _, _, _, rfl, hg.a, hg.c, hh.c, ⟨hg.oa.sx, hg.oc.sx, hg.oa.sy, hg.oc.sy⟩, _, _, rfl, rfl, .inl (m64 t3), _, _, rfl, rfl, _, rfl, ifD (fun n2 => absurd ⟨n1, n2⟩ y) (fun _ => ?_)⟩
            exact ⟨small rfl, fun p hp => k _ _ (same_then e2 hp) ⟨p, rfl, tHere⟩⟩
          · exact ⟨small rfl, fun p hp => k _ _ (same_then e2 hp) ⟨p, rfl, tHere⟩⟩
theorem ok_meeting (T : Txt K mg) (TB : TxtB T base w) : FnOk P w K mg base (L2.CX P w) 5 T.a_meeting T.d_meeting ["first", "second"] (fun vs H Q E => ∃ x y b c, vs = [x, y] ∧ SgV K H x b ∧ SgV K H y c ∧ Tbs T.ts H ∧ (b = false → ∀ H', Same H H' → Rz T.C_BadValue (.str "first") H' E) ∧ (b = true → c = false → ∀ H', Same H H' → Rz T.C_BadValue (.str "second") H' E) ∧ (b = true → c = true → ∀ v H', Same H H' → Q v H')) := by
  refine T.F_meeting.okX sc_meeting (fun vs H Q E h => ?_) (fun cdv A outer s H vs Q E hr h => ?_)
  · obtain ⟨x, y, b, c, rfl, h1, h2, tb, k1, k2, k⟩ := h
    rfl
  · obtain ⟨x, y, b, c, rfl, h1, h2, tb, k1, k2, k⟩ := h
    refine ⟨_, (pss_cons (ps_expr (pe_call (ok_need T TB) (hr.mono (by omega)) rfl T.m_need T.F_need.kp T.b_need .nil (passes_call (takes_of rfl rfl rfl rfl) (fun _ _ _ _ h => h)) (pa_cons (pe_call (ok_is_segment T TB) (hr.mono (by omega)) rfl T.m_is_segment T.F_is_segment.kp T.b_is_segment .nil pass0 (pa_cons (pv 0) pa_nil)) (pa_cons pe_str pa_nil))))
      (pss_cons (ps_expr (pe_call (ok_need T TB) (hr.mono (by omega)) rfl T.m_need T.F_need.kp T.b_need .nil (passes_call (takes_of rfl rfl rfl rfl) (fun _ _ _ _ h => h)) (pa_cons (pe_call (ok_is_segment T TB) (hr.mono (by omega)) rfl T.m_is_segment T.F_is_segment.kp T.b_is_segment .nil pass0 (pa_cons (pv 1) pa_nil)) (pa_cons pe_str pa_nil))))
      (pss_one (ps_ret (pe_call (ok_meeting_of T TB) (hr.mono (by omega)) rfl T.m_meeting_of T.F_meeting_of.kp T.b_meeting_of .nil pass0 (pa_cons (pv 0) (pa_cons (pv 1) pa_nil))))))), ?_⟩
    refine ⟨_, rfl, x, b, rfl, h1, _, _, rfl, fun e1 => ?_, fun e1 => k1 e1 _ (Same.refl _)⟩
    refine ⟨_, rfl, y, c, rfl, h2, _, _, rfl, fun e2 => ?_, fun e2 => k2 e1 e2 _ (Same.refl _)⟩
    subst e1 e2
    obtain ⟨g, a, d, ax, ay, bx, dy, rfl, hg⟩ := h1.get
    obtain ⟨h, e, f, ex, ey, fx, fy, rfl, hh⟩ := h2.get
    exact ⟨_, rfl, _, rfl, _, _, _, _, _, _, _, _, _, _, _, _, _, _, rfl, hg, hh, fun v H' s _ => k rfl rfl v H' s⟩
theorem ok_ways_around (T : Txt K mg) (TB : TxtB T base w) : FnOk P w K mg base CX0 1 T.a_ways_around T.d_ways_around ["points"] (fun vs H Q _ => ∃ (a : Addr) (zs : List Zp), vs = [.ref a] ∧ LnAt K H a zs ∧ 1 ≤ zs.length ∧ zs.length ≤ 900 ∧ ∀ (l : Addr) (ps : List Addr) H', Same H H' → SqL K H' l (ps.map V.ref) → ps.length = zs.length → (∀ (i : Nat) p u w, ps[i]? = some p → zs[i]? = some u → (zs.drop 1 ++ zs.take 1)[i]? = some w → SqT K H' p [.ref u.1, .ref w.1]) → Q (.ref l) H') := by
  refine T.F_ways_around.ok sc_ways_around (fun vs H Q E h => ?_) (fun cdv A outer s H vs Q E hr h => ?_)
  · obtain ⟨a, zs, rfl, ha, l1, l2, k⟩ := h
    rfl
  · obtain ⟨a, zs, rfl, ha, l1, l2, k⟩ := h
    refine ⟨_, (pss_one (ps_ret (Zl.pe_listZip rfl (by rfl) T.n_list (by rfl) T.n_zip (pa_cons (pv 0) (pa_cons (pe_op op_catA (pe_slice sl_tupA (pv 0) (po_some pe_int) po_none) (pe_slice sl_tupA (pv 0) po_none (po_some pe_int))) pa_nil))))), ?_⟩
    refine ⟨_, rfl, _, rfl, _, rfl, ?_⟩
    refine noPart (slA_of ha.t fun q H2 s2 hq => ?_)
    rw [show ((1 : Int)) = ((1 : Nat) : Int) from rfl, cut_drop, ← List.map_drop] at hq
    refine ⟨_, rfl, _, rfl, ?_⟩
    refine slA_of (tSame s2 ha.t) fun q3 H3 s3 h3 => ?_
    rw [show ((1 : Int)) = ((1 : Nat) : Int) from rfl, cut_take, ← List.map_take] at h3
    have big : 1000 ≤ sizeLine := by decide
    refine catA_of (tSame s3 hq) h3 (by rw [List.length_map, List.length_map, List.length_drop, List.length_take]; omega) fun q4 H4 s4 h4 => ?_
    rw [← List.map_append] at h4
    have s := (s2.trans s3).trans s4
    refine ⟨_, _, _, _, rfl, (ha.same s).t, h4, by rw [List.length_map, List.length_map, List.length_append, List.length_drop, List.length_take]; omega, by rw [List.length_map]; omega, fun S ps H' hl old pairs free => ?_⟩
    refine k S ps _ (same_then (s.trans fun b o e => .inl (old b o e)) free) lHere (by rw [hl, List.length_map]) fun i p u w h1 h2 h3 => ?_
    exact tOver free (SqT.of (pairs i p _ _ h1 (by rw [List.getElem?_map, h2]; rfl) (by rw [List.getElem?_map, h3]; rfl)))
theorem ok_area_around (T : Txt K mg) (TB : TxtB T base w) : FnOk P w K mg base CX0 5 T.a_area_around T.d_area_around ["points"] (fun vs H Q _ => ∃ (a : Addr) (zs : List Zp), vs = [.ref a] ∧ LnAt K H a zs ∧ 1 ≤ zs.length ∧ zs.length ≤ 100 ∧ Tbs T.ts H ∧ ∀ H', Same H H' → Q (.int (around zs)) H') := by
  refine T.F_area_around.ok sc_area_around (fun vs H Q E h => ?_) (fun A outer s H vs Q E hr h => ?_)
  · obtain ⟨a, zs, rfl, ha, l1, l2, tb, k⟩ := h
    rfl
  · obtain ⟨a, zs, rfl, ha, l1, l2, tb, k⟩ := h
    refine ⟨_, (pss_one (ps_ret (Gx.pe_sum (own := [("p", 1), ("q", 2)]) (g := gTup K 2 (gCons (gName 1) (gCons (gName 2) gNil))) (tt := tYes) (x := "p") (k := 0) (hr.mono (by omega)) rfl sc_area_around.nd rfl T.n_sum TB.t_area_around rfl (Gx.genS_by rfl rfl (by decide +kernel) rfl rfl (by rfl)) (blkOk_by (own := [("p", 1), ("q", 2)]) (N := N_area_around) (sc := defScope s_area_around) (by decide +kernel)) (pi_list (pe_call (ok_ways_around T TB) (hr.mono (by omega)) rfl T.m_ways_around T.F_ways_around.kp T.b_ways_around .nil pass0 (pa_cons (pv 0) pa_nil))) (fun _ _ _ _ _ _ _ hB => (pg_tup (by rfl) (pgs_cons (pg_name (i := 1) sc_area_around.nd rfl (Or.inl rfl)) (pgs_cons (pg_name (i := 2) sc_area_around.nd rfl (Or.inl rfl)) pgs_nil)))) (fun _ _ _ _ _ _ _ hB => pts_nil) (fun _ _ _ _ _ _ _ hB => (pe_op op_sub (pe_op op_mul (pe_ix (r := rIxT K) ix_tup (pv 1) pe_int (fun _ _ => rfl)) (pe_ix (r := rIxT K) ix_tup (pv 2) pe_int (fun _ _ => rfl))) (pe_op op_mul (pe_ix (r := rIxT K) ix_tup (pv 1) pe_int (fun _ _ => rfl)) (pe_ix (r := rIxT K) ix_tup (pv 2) pe_int (fun _ _ => rfl))))) (fun _ => rfl)))), ?_⟩
    have mem2 : ∀ {w : Zp} {i : Nat}, (zs.drop 1 ++ zs.take 1)[i]? = some w → w ∈ zs := fun {w i} h => (List.mem_append.mp (List.mem_of_getElem? h)).elim List.mem_of_mem_drop List.mem_of_mem_take
    
    refine ⟨_, rfl, _, _, rfl, ha, l1, by omega, fun l ps H1 s1 hl hlen hps => ⟨_, rfl, ⟨_, hl⟩, (tb.same s1) _ (by simp [Txt.ts]), fun H2 g2 => ?_⟩⟩
    have s12 := same_tab ((tb.same s1) _ (by simp [Txt.ts])) g2
    have ln : (ps.map V.ref).length = zs.length := by rw [List.length_map]; exact hlen
    refine Gx.sum_walk walk_list (fun i t H' => Same H2 H' ∧ t = ((List.zipWith cr zs (zs.drop 1 ++ zs.take 1)).take i).sum ∧ t.natAbs ≤ i * 2097152) ⟨Same.refl _, rfl, by simp⟩ (fun i t H' h => h.1.seq (s12.seq hl)) ?_ ?_
    · rintro i t x H5 H6 hi ⟨s5, ht, tl⟩ ⟨rfl, hxi⟩
      rw [List.getElem?_map] at hxi
      obtain ⟨p, g1, rfl⟩ := Option.map_eq_some_iff.mp hxi
      have hi2 : i < zs.length := by omega
      obtain ⟨u, hu⟩ : ∃ u, zs[i]? = some u := ⟨_, List.getElem?_eq_getElem hi2⟩
      obtain ⟨w, hw⟩ : ∃ w, (zs.drop 1 ++ zs.take 1)[i]? = some w := ⟨_, List.getElem?_eq_getElem (by rw [List.length_append, List.length_drop, List.length_take]; omega)⟩
      have s15 := s12.trans s5
      have ha5 := ha.same (s1.trans s15)
      have pu := ha5.p.get hu
      have pw := ha5.p w (mem2 hw)
      have ou := ha.on _ (List.mem_of_getElem? hu)
      have ow := ha.on _ (mem2 hw)
      have hc : (cr u w).natAbs ≤ 2097152 := Nat.le_trans (cr_le ou ow) (by decide)
      refine ⟨_, _, rfl, tSame s15 (hps i p u w g1 hu hw), rfl, _, _, rfl, _, _, rfl, rfl, ⟨rfl, yesI ?_⟩⟩
      refine iteT ?_
      unfold On at ou ow
      refine ⟨_, rfl, _, _, _, _, rfl, rfl, pu, at0, _, rfl, _, _, _, _, rfl, rfl, pw, at1, _, _, rfl, rfl, .inl ⟨by omega, by omega⟩, _, rfl, _, _, _, _, rfl, rfl, pu, at1, _, rfl, _, _, _, _, rfl, rfl, pw, at0, _, _, rfl, rfl, .inl ⟨by omega, by omega⟩, _, _, rfl, rfl, cr u w, rfl, ⟨by omega, by omega⟩, ⟨by omega, by omega⟩, s5, ?_, by omega⟩
      rw [List.take_succ, List.getElem?_zipWith, hu, hw, List.sum_append, ht]
      simp
    · rintro t H5 ⟨s5, ht, tl⟩
      rw [ln, List.take_of_length_le (by rw [List.length_zipWith]; omega), area_sum l1] at ht
      rw [ht]
      exact k H5 ((s1.trans s12).trans s5)
theorem ok_do_follow (T : Txt K mg) (TB : TxtB T base w) : FnOk P w K mg base CX0 1 T.a_do_follow T.d_do_follow ["i", "j", "many"] (fun vs H Q _ => ∃ (i j n : Nat), vs = [.int i, .int j, .int n] ∧ Q (.bl (follow i j n)) H) := by
  refine T.F_do_follow.ok sc_do_follow (fun vs H Q E h => ?_) (fun cdv A outer s H vs Q E hr h => ?_)
  · obtain ⟨i, j, n, rfl, k⟩ := h
    rfl
  · obtain ⟨i, j, n, rfl, k⟩ := h
    refine ⟨_, (pss_one (ps_ret (pe_or (pe_cmpR op_eq (pv 1) (pe_op op_add (pv 0) pe_int) (nomark _)) (pe_one (pe_and (pe_cmpR op_eq (pv 0) pe_int (nomark _)) (pe_one (pe_cmpR op_eq (pv 1) (pe_op op_sub (pv 2) pe_int) (nomark _)))))))), ?_⟩
    unfold follow at k
    refine ⟨_, rfl, _, rfl, _, _, rfl, rfl, rfl, _, rfl, ifD (fun e => ?_) (fun e => ?_)⟩
    · rw [decide_eq_true (show j = i + 1 by injection e with e; omega), Bool.true_or] at k
      exact k
    rw [decide_eq_false (show ¬ j = i + 1 from fun z => e (by rw [z]; rfl)), Bool.false_or] at k
    refine ⟨_, rfl, rfl, _, rfl, ifD (fun e => ?_) (fun e => ?_)⟩
    · rw [decide_eq_true (show i = 0 by injection e with e; omega), Bool.true_and] at k
      refine ⟨_, rfl, _, rfl, _, _, rfl, rfl, rfl, ?_⟩
      rw [decide_eq_decide.mpr (show (V.int (j : Int) = V.int ((n : Int) - 1)) ↔ j + 1 = n from ⟨fun z => by injection z with z; omega, fun z => by rw [show (j : Int) = (n : Int) - 1 by omega]⟩)]
      exact k
    · rw [decide_eq_false (show ¬ i = 0 from fun z => e (by rw [z]; rfl)), Bool.false_and] at k
      exact k
theorem ok_is_simple (T : Txt K mg) (TB : TxtB T base w) : FnOk P w K mg base CX0 8 T.a_is_simple T.d_is_simple ["points"] (fun vs H Q _ => ∃ (a : Addr) (zs : List Zp), vs = [.ref a] ∧ LnAt K H a zs ∧ 3 ≤ zs.length ∧ zs.length ≤ 40 ∧ Tbs T.ts H ∧ ∀ b H', (b = true ↔ Simp zs) → Same H H' → Q (.bl b) H') := by
  refine T.F_is_simple.ok sc_is_simple (fun vs H Q E h => ?_) (fun A outer s H vs Q E hr h => ?_)
  · obtain ⟨a, zs, rfl, ha, l1, l2, tb, k⟩ := h
    rfl
  · obtain ⟨a, zs, rfl, ha, l1, l2, tb, k⟩ := h
    refine ⟨_, (pss_cons (ps_if (pt_val (Gx.pe_gen true (own := [("p", 6), ("q", 7)]) (g := gTup K 2 (gCons (gName 6) (gCons (gName 7) gNil))) (tt := tYes) (x := "p") (k := 0) rfl (hr.mono (by omega)) rfl sc_is_simple.nd rfl T.n_any TB.t_is_simple rfl (Gx.genS_by rfl rfl (by decide +kernel) rfl rfl (by rfl)) (blkOk_by (own := [("p", 6), ("q", 7)]) (N := N_is_simple) (sc := defScope s_is_simple) (by decide +kernel)) (pi_list (pe_call (ok_ways_around T TB) (hr.mono (by omega)) rfl T.m_ways_around T.F_ways_around.kp T.b_ways_around .nil pass0 (pa_cons (pv 0) pa_nil))) (fun _ _ _ _ _ _ _ hB => (pg_tup (by rfl) (pgs_cons (pg_name (i := 6) sc_is_simple.nd rfl (Or.inl rfl)) (pgs_cons (pg_name (i := 7) sc_is_simple.nd rfl (Or.inl rfl)) pgs_nil)))) (fun _ _ _ _ _ _ _ hB => pts_nil) (fun _ _ _ _ _ _ _ hB => (pe_cmpR (op_eqK (K := K) rfl hB.units) (pv 6) (pv 7) (nomark _))) (fun _ => rfl)))
        (pss_one (ps_ret pe_bl))
        pss_nil)
      (pss_cons (ps_set (i := 1) sc_is_simple.nd rfl (Or.inl rfl) (pe_call (ok_edges_along T TB) (hr.mono (by omega)) rfl T.m_edges_along T.F_edges_along.kp T.b_edges_along .nil pass0 (pa_cons (pe_op op_catA (pv 0) (pe_slice sl_tupA (pv 0) po_none (po_some pe_int))) pa_nil)))
      (pss_cons (ps_set (i := 2) sc_is_simple.nd rfl (Or.inl rfl) (pe_callB call_len (by rfl) T.n_len (by decide +kernel) (pa_cons (pv 1) pa_nil)))
      (pss_cons (ps_for PassesOwn.never rfl (pi_range1 rfl T.n_range (pa_cons (pv 2) pa_nil)) (pg_name (i := 3) sc_is_simple.nd rfl (Or.inl rfl))
        (pss_one (ps_for PassesOwn.never rfl (pi_range1 rfl T.n_range (pa_cons (pv 3) pa_nil)) (pg_name (i := 4) sc_is_simple.nd rfl (Or.inl rfl))
          (pss_cons (ps_set (i := 5) sc_is_simple.nd rfl (Or.inl rfl) (pe_ifExp (pt_val (pe_call (ok_do_follow T TB) (hr.mono (by omega)) rfl T.m_do_follow T.F_do_follow.kp T.b_do_follow .nil pass0 (pa_cons (pv 4) (pa_cons (pv 3) (pa_cons (pv 2) pa_nil))))) pe_str pe_str))
          (pss_one (ps_if (pt_cmpR op_ne (pe_ix (r := rIxT K) ix_tup (pe_call (ok_meeting_of T TB) (hr.mono (by omega)) rfl T.m_meeting_of T.F_meeting_of.kp T.b_meeting_of .nil pass0 (pa_cons (pe_ix (r := rIxL K) ix_list (pv 1) (pv 4) (fun _ _ => rfl)) (pa_cons (pe_ix (r := rIxL K) ix_list (pv 1) (pv 3) (fun _ _ => rfl)) pa_nil))) pe_int (fun _ _ => rfl)) (pv 5) (nomark _))
            (pss_one (ps_ret pe_bl))
            pss_nil))))))
      (pss_one (ps_ret pe_bl)))))), ?_⟩
    refine Gx.step_gen fun Q' hQ => ?_
    refine ⟨_, rfl, _, _, rfl, ha, by omega, by omega, fun l ps H1 s1 hl hlen hps => ⟨_, rfl, ⟨_, hl⟩, (tb.same s1) _ (by simp [Txt.ts]), fun H2 g2 => ?_⟩⟩
    have s12 := same_tab ((tb.same s1) _ (by simp [Txt.ts])) g2
    have lp : (ps.map V.ref).length = zs.length := by rw [List.length_map]; exact hlen
    have no : ∀ H', Same H H' → ¬ Simp zs → Q (.bl false) H' := fun H' s h => k false H' ⟨(fun z => by cases z), fun z => absurd z h⟩ s
    refine Gx.gen_walk walk_list (fun i H' => Same H2 H' ∧ ∀ j, j < i → pt zs j ≠ pt zs (j + 1)) ⟨Same.refl _, fun j h => absurd h (Nat.not_lt_zero _)⟩ (fun i H' h => h.1.seq (s12.seq hl)) ?_ ?_
    · rintro i x H5 H6 hi ⟨s5, hd⟩ ⟨rfl, hxi⟩
      rw [List.getElem?_map] at hxi
      obtain ⟨p, g1, rfl⟩ := Option.map_eq_some_iff.mp hxi
      obtain ⟨u, w, hu, hw, mu, mw, eu, ew⟩ := ring_next (zs := zs) (i := i) (by omega)
      have s15 := s12.trans s5
      have ha5 := ha.same (s1.trans s15)
      refine ⟨_, _, rfl, tSame s15 (hps i p u w g1 hu hw), rfl, _, _, rfl, _, _, rfl, rfl, ⟨rfl, yesI ?_⟩⟩
      refine iteT ?_
      refine ⟨_, rfl, _, rfl, _, _, _, _, _, _, rfl, rfl, ha5.p u mu, ha5.p w mw, _, rfl, ?_⟩
      by_cases q : u.2.1 = w.2.1 ∧ u.2.2 = w.2.2
      · rw [decide_eq_true q]
        refine (if_pos rfl).mpr ?_
        rw [hQ]
        exact ⟨_, rfl, iteT (no _ (s1.trans s15) fun S => absurd (by rw [eu, ew]; exact pt_eq q.1 q.2) (S.ne i (by omega)))⟩
      · rw [decide_eq_false q]
        refine (if_neg (by decide)).mpr ⟨s5, fun j hj => ?_⟩
        by_cases e : j = i
        · subst e
          rw [eu, ew]
          exact fun z => q ⟨congrArg Prod.fst z, congrArg Prod.snd z⟩
        · exact hd j (by omega)
    rintro H5 ⟨s5, hd⟩
    rw [hQ]
    refine ⟨_, rfl, iteF ?_⟩
    rw [lp] at hd
    have s15 := (s1.trans s12).trans s5
    have ha5 := ha.same s15
    refine ⟨_, rfl, _, rfl, _, rfl, ?_⟩
    refine slA_of ha5.t fun q3 H6 s6 h3 => ?_
    rw [show ((1 : Int)) = ((1 : Nat) : Int) from rfl, cut_take, refs_take] at h3
    have big : 1000 ≤ sizeLine := by decide
    refine catA_of (tSame s6 ha5.t) h3 (by rw [refs_len, refs_len, List.length_take]; omega) fun q4 H7 s7 h4 => ?_
    rw [← refs_app] at h4
    have hln4 : LnAt K H7 q4 (zs ++ zs.take 1) := (ha5.same (s6.trans s7)).sub (fun z hz => (List.mem_append.mp hz).elim id List.mem_of_mem_take) h4
    have lr := row_len (zs := zs) (by omega)
    have hne : Ne (zs ++ zs.take 1) := fun i u w h1 h2 z => by
      have := (List.getElem?_eq_some_iff.mp h2).1
      refine hd i (by omega) ?_
      rw [(ring_row h1).1, (ring_row h2).1]
      exact pt_eq z.1 z.2
    refine ⟨_, _, rfl, hln4, by omega, by omega, hne, fun l2 gs H8 s8 hl2 hlen2 hgs => ?_⟩
    have lg : (gs.map V.ref).length = zs.length := by rw [List.length_map]; omega
    have s18 := ((s15.trans s6).trans s7).trans s8
    refine ⟨_, rfl, _, _, rfl, .inl ⟨_, hl2, rfl⟩, ?_⟩
    refine ⟨_, rfl, _, rfl, by omega, by omega, for_range (lo := 0) (n := (gs.map V.ref).length) (fun j σ H' => Same H8 H' ∧ (∃ (o3 o4 o5 : Option V), σ = [some (.ref a), some (.ref l2), some (.int (gs.map V.ref).length), o3, o4, o5, none, none]) ∧ ∀ j', j' < j → ∀ i', i' < j' → (if follow i' j' zs.length = true then isT (mt2 (pt zs i') (pt zs (i' + 1)) (pt zs j') (pt zs (j' + 1))) = true else mt2 (pt zs i') (pt zs (i' + 1)) (pt zs j') (pt zs (j' + 1)) = .none)) ⟨Same.refl _, ⟨none, none, none, rfl⟩, fun j' h => absurd h (Nat.not_lt_zero _)⟩ ?_ ?_⟩
    rotate_left
    · rintro σ H9 ⟨s9, ⟨o3, o4, o5, rfl⟩, hg⟩
      rw [lg] at hg
      exact k true _ ⟨fun _ => (looked_iff l1).mp ⟨hd, hg⟩, fun _ => rfl⟩ (s18.trans s9)
    rintro j σ H9 hj ⟨s9, ⟨o3, o4, o5, rfl⟩, hg⟩
    refine ⟨_, rfl, _, rfl, by omega, by omega, for_range (lo := 0) (n := (0 + (j : Int)).toNat) (fun i σ H' => Same H8 H' ∧ (∃ (o4 o5 : Option V), σ = [some (.ref a), some (.ref l2), some (.int (gs.map V.ref).length), some (.int (0 + (j : Int))), o4, o5, none, none]) ∧ ∀ i', i' < i → ∀ j', j' = j → (if follow i' j' zs.length = true then isT (mt2 (pt zs i') (pt zs (i' + 1)) (pt zs j') (pt zs (j' + 1))) = true else mt2 (pt zs i') (pt zs (i' + 1)) (pt zs j') (pt zs (j' + 1)) = .none)) ⟨s9, ⟨_, _, rfl⟩, fun i' h => absurd h (Nat.not_lt_zero _)⟩ ?_ ?_⟩
    rotate_left
    · rintro σ H10 ⟨s10, ⟨o4', o5', rfl⟩, hi⟩
      refine ⟨s10, ⟨_, _, _, rfl⟩, fun j' h i' h' => ?_⟩
      by_cases e : j' = j
      · subst e
        exact hi i' (by omega) j' rfl
      · exact hg j' (by omega) i' h'
    rintro i σ H10 hi ⟨s10, ⟨o4', o5', rfl⟩, hh⟩
    have hi : i < j := by omega
    have hj : j < zs.length := by omega
    refine ⟨_, rfl, _, rfl, _, rfl, i, j, (gs.map V.ref).length, by rw [Int.zero_add, Int.zero_add]; rfl, ?_⟩
    rw [lg]
    obtain ⟨ui, wi, hui, hwi, mui, mwi, eui, ewi⟩ := row_at (zs := zs) (i := i) (by omega)
    obtain ⟨uj, wj, huj, hwj, muj, mwj, euj, ewj⟩ := row_at (zs := zs) (i := j) hj
    obtain ⟨gi, hgi⟩ : ∃ g, gs[i]? = some g := ⟨_, List.getElem?_eq_getElem (by omega)⟩
    obtain ⟨gj, hgj⟩ : ∃ g, gs[j]? = some g := ⟨_, List.getElem?_eq_getElem (by omega)⟩
    obtain ⟨ai, ci, Si⟩ := ((hgs i gi ui wi hgi hui hwi).same s10).ord
    obtain ⟨aj, cj, Sj⟩ := ((hgs j gj uj wj hgj huj hwj).same s10).ord
    rw [← eui, ← ewi] at Si
    rw [← euj, ← ewj] at Sj
    have hl10 := s10.seq hl2
    have xi : atI (gs.map V.ref) (0 + (i : Int)) = some (.ref gi) := at_of (Int.zero_add _) (by rw [List.getElem?_map, hgi]; rfl)
    have xj : atI (gs.map V.ref) (0 + (j : Int)) = some (.ref gj) := at_of (Int.zero_add _) (by rw [List.getElem?_map, hgj]; rfl)
    have s110 := s18.trans s10
    have next : ∀ H', Same H10 H' → (if follow i j zs.length = true then isT (mt2 (pt zs i) (pt zs (i + 1)) (pt zs j) (pt zs (j + 1))) = true else mt2 (pt zs i) (pt zs (i + 1)) (pt zs j) (pt zs (j + 1)) = .none) → Same H8 H' ∧ ∀ i', i' < i + 1 → ∀ j', j' = j → (if follow i' j' zs.length = true then isT (mt2 (pt zs i') (pt zs (i' + 1)) (pt zs j') (pt zs (j' + 1))) = true else mt2 (pt zs i') (pt zs (i' + 1)) (pt zs j') (pt zs (j' + 1)) = .none) := fun H' s' h => ⟨s10.trans s', fun i' hi' j' hj' => by
      by_cases e : i' = i
      · subst e hj'
        exact h
      · exact hh i' (by omega) j' hj'⟩
    have stop : ∀ H', Same H10 H' → ¬ (if follow i j zs.length = true then isT (mt2 (pt zs i) (pt zs (i + 1)) (pt zs j) (pt zs (j + 1))) = true else mt2 (pt zs i) (pt zs (i + 1)) (pt zs j) (pt zs (j + 1)) = .none) → Q (.bl false) H' := fun H' s' h => no _ (s110.trans s') fun S => h (((looked_iff l1).mpr S).2 j hj i hi)
    refine ⟨_, rfl, ifB (fun f => ?_) (fun f => ?_)⟩
    · rw [f, if_pos rfl] at next stop
      refine ⟨_, rfl, _, rfl, _, _, _, _, rfl, rfl, hl10, xi, _, rfl, _, rfl, _, _, _, _, rfl, rfl, hl10, xj, _, _, _, _, _, _, _, _, _, _, _, _, _, _, rfl, Si, Sj, fun v H11 s11 hm => ?_⟩
      have hm : MtAt K H11 v (mt2 (pt zs i) (pt zs (i + 1)) (pt zs j) (pt zs (j + 1))) := hm
      obtain ⟨p, xs, rfl, hp, h0⟩ := hm.first
      refine ⟨_, _, _, _, rfl, rfl, hp, h0, _, rfl, rfl, _, rfl, ifND (fun e => ?_) (fun e => ?_)⟩
      · exact stop _ s11 fun t => e (congrArg V.str (mtS_touch.mpr t))
      · obtain ⟨n1, n2⟩ := next _ s11 (mtS_touch.mp (by injection e))
        exact ⟨n1, ⟨_, _, rfl⟩, n2⟩
    · rw [f, if_neg (by decide)] at next stop
      refine ⟨_, rfl, _, rfl, _, _, _, _, rfl, rfl, hl10, xi, _, rfl, _, rfl, _, _, _, _, rfl, rfl, hl10, xj, _, _, _, _, _, _, _, _, _, _, _, _, _, _, rfl, Si, Sj, fun v H11 s11 hm => ?_⟩
      have hm : MtAt K H11 v (mt2 (pt zs i) (pt zs (i + 1)) (pt zs j) (pt zs (j + 1))) := hm
      obtain ⟨p, xs, rfl, hp, h0⟩ := hm.first
      refine ⟨_, _, _, _, rfl, rfl, hp, h0, _, rfl, rfl, _, rfl, ifND (fun e => ?_) (fun e => ?_)⟩
      · exact stop _ s11 fun t => e (congrArg V.str (mtS_none.mpr t))
      · obtain ⟨n1, n2⟩ := next _ s11 (mtS_none.mp (by injection e))
        exact ⟨n1, ⟨_, _, rfl⟩, n2⟩
theorem ok_goes_around (T : Txt K mg) (TB : TxtB T base w) : FnOk P w K mg base CX0 9 T.a_goes_around T.d_goes_around ["value"] (fun vs H Q _ => ∃ (x : V), vs = [x] ∧ Tbs T.ts H ∧ ((∃ (a : Addr) (zs : List Zp), x = .ref a ∧ LnAt K H a zs ∧ zs.length ≤ 1000 ∧ ∀ b H', (b = true ↔ 3 ≤ zs.length ∧ zs.length ≤ 40 ∧ Simp zs) → Same H H' → Q (.bl b) H') ∨ (AV K 3 40 H x false ∧ ∀ H', Same H H' → Q (.bl false) H'))) := by
  refine T.F_goes_around.ok sc_goes_around (fun vs H Q E h => ?_) (fun cdv A outer s H vs Q E hr h => ?_)
  · obtain ⟨x, rfl, tb, hx⟩ := h
    rfl
  · obtain ⟨x, rfl, tb, hx⟩ := h
    refine ⟨_, (pss_one (ps_ret (pe_and (pe_call (ok_are_points T TB) (hr.mono (by omega)) rfl T.m_are_points T.F_are_points.kp T.b_are_points .nil pass0 (pa_cons (pv 0) (pa_cons (pe_gI T.c_LEAST_OF_RING) (pa_cons (pe_gI T.c_MOST_OF_RING) pa_nil)))) (pe_one (pe_call (ok_is_simple T TB) (hr.mono (by omega)) rfl T.m_is_simple T.F_is_simple.kp T.b_is_simple .nil pass0 (pa_cons (pv 0) pa_nil)))))), ?_⟩
    rcases hx with ⟨a, zs, rfl, ha, l2, k⟩ | ⟨av, k⟩
    rotate_left
    · exact ⟨_, rfl, _, _, _, _, rfl, av, tb, fun H1 s1 => ⟨_, rfl, k H1 s1⟩⟩
    refine ⟨_, rfl, _, _, _, _, rfl, ha.av l2, tb, fun H1 s1 => ⟨_, rfl, ?_⟩⟩
    refine ifB (fun e => ?_) (fun e => ?_)
    · obtain ⟨g1, g2⟩ := Bool.and_eq_true _ _ ▸ e
      have g1 := of_decide_eq_true g1
      have g2 := of_decide_eq_true g2
      exact ⟨_, rfl, _, _, rfl, ha.same s1, by omega, by omega, tb.same s1, fun b H2 hb s2 => k b H2 (hb.trans ⟨fun z => ⟨by omega, by omega, z⟩, fun z => z.2.2⟩) (s1.trans s2)⟩
    · have k := k false H1 ⟨(fun z => by cases z), fun z => by
        rw [decide_eq_true (by omega), decide_eq_true (by omega)] at e
        cases e⟩ s1
      exact k
theorem ok_is_ring (T : Txt K mg) (TB : TxtB T base w) : FnOk P w K mg base CX0 10 T.a_is_ring T.d_is_ring ["value"] (fun vs H Q _ => ∃ (x : V), vs = [x] ∧ Tbs T.ts H ∧ ((∃ (a : Addr) (zs : List Zp), x = .ref a ∧ LnAt K H a zs ∧ zs.length ≤ 1000 ∧ ∀ b H', (b = true ↔ RingOk zs) → Same H H' → Q (.bl b) H') ∨ (AV K 3 40 H x false ∧ ∀ H', Same H H' → Q (.bl false) H'))) := by
  refine T.F_is_ring.ok sc_is_ring (fun vs H Q E h => ?_) (fun cdv A outer s H vs Q E hr h => ?_)
  · obtain ⟨x, rfl, tb, hx⟩ := h
    rfl
  · obtain ⟨x, rfl, tb, hx⟩ := h
    refine ⟨_, (pss_one (ps_ret (pe_and (pe_call (ok_goes_around T TB) (hr.mono (by omega)) rfl T.m_goes_around T.F_goes_around.kp T.b_goes_around .nil pass0 (pa_cons (pv 0) pa_nil)) (pe_and (pe_cmpR op_gt (pe_call (ok_area_around T TB) (hr.mono (by omega)) rfl T.m_area_around T.F_area_around.kp T.b_area_around .nil pass0 (pa_cons (pv 0) pa_nil)) pe_int (nomark _)) (pe_one (pe_cmpR (op_eqP hr.units) (pe_ix (r := rIxT K) ix_tup (pv 0) pe_int (fun _ _ => rfl)) (pe_callB (cr_minT rfl hr.units) (by rfl) T.n_min (by decide +kernel) (pa_cons (pv 0) pa_nil)) (nomark _))))))), ?_⟩
    rcases hx with ⟨a, zs, rfl, ha, l2, k⟩ | ⟨av, k⟩
    rotate_left
    · exact ⟨_, rfl, _, rfl, tb, .inr ⟨av, fun H1 s1 => ⟨_, rfl, k H1 s1⟩⟩⟩
    refine ⟨_, rfl, _, rfl, tb, .inl ⟨_, _, rfl, ha, l2, fun b1 H1 hb1 s1 => ⟨_, rfl, ifB (fun e1 => ?_) (fun e1 => ?_)⟩⟩⟩
    rotate_left
    · exact k false H1 ⟨(fun z => by cases z), fun R => by rw [hb1.mpr ⟨R.l3, R.lm, R.simp⟩] at e1; cases e1⟩ s1
    obtain ⟨g1, g2, g3⟩ := hb1.mp e1
    refine ⟨_, rfl, _, _, rfl, ha.same s1, by omega, by omega, tb.same s1, fun H2 s2 => ⟨_, _, rfl, rfl, _, rfl, ifB (fun e2 => ?_) (fun e2 => ?_)⟩⟩
    rotate_left
    · exact k false H2 ⟨(fun z => by cases z), fun R => absurd R.pos (of_decide_eq_false e2)⟩ (s1.trans s2)
    have s12 := s1.trans s2
    have ha2 := ha.same s12
    obtain ⟨z0, h0⟩ : ∃ z, zs[0]? = some z := ⟨_, List.getElem?_eq_getElem (by omega)⟩
    have m0 := List.mem_of_getElem? h0
    refine ⟨_, rfl, _, _, _, _, rfl, rfl, ha2.t, atI_nat (j := 0) (by rw [List.getElem?_map, h0]; rfl), _, rfl, _, _, rfl, .inl ha2.t, ha2.p, by omega, fun z mz hz => ?_⟩
    refine ⟨_, _, _, _, _, _, rfl, rfl, ha2.p z0 m0, ha2.p z mz, ?_⟩
    refine k _ H2 ?_ s12
    rw [decide_eq_true_eq]
    have p0 : pt zs 0 = z0.2 := pt_at h0
    constructor
    · rintro ⟨z1, z2⟩
      exact ⟨g1, g2, g3, of_decide_eq_true e2, fun w hw => by rw [p0, show z0.2 = z.2 from pt_eq z1 z2]; exact hz w hw⟩
    · intro R
      have e := lt_tri (hz z0 m0) (by have := R.least z mz; rw [p0] at this; exact this)
      rw [e]
      exact ⟨rfl, rfl⟩
theorem ok_ring_of (T : Txt K mg) (TB : TxtB T base w) : FnOk P w K mg base (L2.CX P w) 10 T.a_ring_of T.d_ring_of ["points"] (fun vs H Q E => ∃ x b, vs = [x] ∧ GaV K H x b ∧ Tbs T.ts H ∧ (b = false → ∀ H', Same H H' → Rz T.C_BadValue (.str "points") H' E) ∧ (b = true → ∀ v H', Same H H' → Q v H')) := by
  refine T.F_ring_of.okX sc_ring_of (fun vs H Q E h => ?_) (fun cdv A outer s H vs Q E hr h => ?_)
  · obtain ⟨x, b, rfl, h1, tb, k1, k⟩ := h
    rfl
  · obtain ⟨x, b, rfl, h1, tb, k1, k⟩ := h
    refine ⟨_, (pss_cons (ps_expr (pe_call (ok_need T TB) (hr.mono (by omega)) rfl T.m_need T.F_need.kp T.b_need .nil (passes_call (takes_of rfl rfl rfl rfl) (fun _ _ _ _ h => h)) (pa_cons (pe_call (ok_goes_around T TB) (hr.mono (by omega)) rfl T.m_goes_around T.F_goes_around.kp T.b_goes_around .nil pass0 (pa_cons (pv 0) pa_nil)) (pa_cons pe_str pa_nil))))
      (C8.pss_cut (ps_if (pt_cmpR op_lt (pe_call (ok_area_around T TB) (hr.mono (by omega)) rfl T.m_area_around T.F_area_around.kp T.b_area_around .nil pass0 (pa_cons (pv 0) pa_nil)) pe_int (nomark _))
        (pss_one (ps_set (i := 0) sc_ring_of.nd rfl (Or.inl rfl) (pe_revTN (pv 0))))
        pss_nil)
      (pss_cons (ps_set (i := 1) sc_ring_of.nd rfl (Or.inl rfl) (pe_bmT PySem.F.slot_tuple_index PySem.F.type_tuple_index (mt_indexT hr.units65) (pv 0) (pa_cons (pe_callB (cr_minT rfl hr.units) (by rfl) T.n_min (by decide +kernel) (pa_cons (pv 0) pa_nil)) pa_nil)))
      (pss_one (ps_ret (pe_op op_catA (pe_slice sl_tupA (pv 0) (po_some (pv 1)) po_none) (pe_slice sl_tupA (pv 0) po_none (po_some (pv 1))))))))), ?_⟩
    rcases h1 with ⟨a, zs, rfl, hn, ha, lz, hb0⟩ | ⟨av, rfl⟩
    rotate_left
    · exact ⟨_, rfl, _, rfl, tb, .inr ⟨av, fun H1 s1 => ⟨_, _, rfl, (fun z => Bool.noConfusion z), fun _ => k1 rfl _ s1⟩⟩⟩
    have kE : ¬ (3 ≤ zs.length ∧ zs.length ≤ 40 ∧ Simp zs) → ∀ H', Same H H' → Rz T.C_BadValue (.str "points") H' E := fun n H' s => k1 (Bool.eq_false_iff.mpr fun z => n (hb0.mp z)) H' s
    have kk : ∀ (c : Addr) (ws : List Zp) H', (3 ≤ zs.length ∧ zs.length ≤ 40 ∧ Simp zs) → LnAt K H' c ws → Made zs ws → Same H H' → Q (.ref c) H' := fun c ws H' hh _ _ s => k (hb0.mpr hh) _ H' s
    refine ⟨_, rfl, _, rfl, tb, .inl ⟨_, _, rfl, ha, lz, fun b H1 hb s1 => ⟨_, _, rfl, fun e => ?_, fun e => kE (fun z => by rw [hb.mpr z] at e; cases e) H1 s1⟩⟩⟩
    obtain ⟨l1, l2, hs⟩ := hb.mp e
    have hn := hn (hb0.mpr ⟨l1, l2, hs⟩)
    have k : ∀ (c : Addr) (ws : List Zp) H', LnAt K H' c ws → Made zs ws → Same H H' → Q (.ref c) H' := fun c ws H' => kk c ws H' ⟨l1, l2, hs⟩
    
    refine ⟨fun σ' H' => ∃ (c : Addr) (ys : List Zp), σ' = [some (.ref c), none] ∧ Same H H' ∧ TN H' c (refs ys) ∧ LnAt K H' c ys ∧ ys = (if around zs < 0 then zs.reverse else zs), ?_, ?_⟩
    · refine ⟨_, rfl, _, _, rfl, ha.same s1, by omega, by omega, tb.same s1, fun H2 s2 => ⟨_, _, rfl, rfl, _, rfl, ifD (fun e => ?_) (fun e => ⟨a, zs, rfl, s1.trans s2, hn.same (s1.trans s2), ha.same (s1.trans s2), by rw [if_neg e]⟩)⟩⟩
      have ha2 := ha.same (s1.trans s2)
      refine ⟨_, rfl, _, _, rfl, ha2.t, by rw [refs_len]; omega, fun p o hp ho => ?_⟩
      have s3 := same_new (o := HO.frz o (.tup (refs zs).reverse)) hp
      have er : refs zs.reverse = (refs zs).reverse := List.map_reverse
      exact ⟨p, zs.reverse, rfl, (s1.trans s2).trans s3, by rw [er]; exact .here ho, (ha2.same s3).sub (fun z hz => List.mem_reverse.mp hz) (by rw [er]; exact (TN.here ho).t), by rw [if_pos e]⟩
    rintro σ' H2 ⟨c, ys, rfl, s2, hnc, hy, ey⟩
    have ly : ys.length = zs.length := by rw [ey]; split <;> simp
    refine ⟨_, rfl, ⟨_, _, rfl, hnc⟩, _, rfl, _, _, rfl, .inl hy.t, hy.p, by omega, fun z mz hz => ?_⟩
    obtain ⟨j, w, h1, h2, h3⟩ := first_idx ys z mz
    have mw := List.mem_of_getElem? h1
    have hj := (List.getElem?_eq_some_iff.mp h1).1
    refine ⟨_, _, _, _, _, j, w, rfl, rfl, hy.t, hy.p, hy.p z mz, h1, congrArg Prod.fst h2, congrArg Prod.snd h2, fun m u hm hu e => h3 m u hm hu (pt_eq e.1 e.2), ?_⟩
    have big : 1000 ≤ sizeLine := by decide
    refine ⟨_, rfl, _, rfl, _, rfl, ?_⟩
    refine noPart (slA_of hy.t fun q1 H3 s3 t1 => ?_)
    rw [cut_drop, refs_drop] at t1
    refine ⟨_, rfl, _, rfl, _, rfl, ?_⟩
    refine slA_of (tSame s3 hy.t) fun q2 H4 s4 t2 => ?_
    rw [cut_take, refs_take] at t2
    refine catA_of (tSame s4 t1) t2 (by rw [refs_len, refs_len, List.length_drop, List.length_take]; omega) fun q3 H5 s5 t3 => ?_
    rw [← refs_app] at t3
    have s35 := (s3.trans s4).trans s5
    exact k q3 _ H5 ((hy.same s35).sub (fun z hz => (List.mem_append.mp hz).elim List.mem_of_mem_drop List.mem_of_mem_take) t3) ⟨⟨ys, j, w, ey, h1, fun u hu => by rw [h2]; exact hz u hu, fun m u hm hu => by rw [h2]; exact h3 m u hm hu, rfl⟩⟩ (s2.trans s35)
theorem ok_size_of (T : Txt K mg) (TB : TxtB T base w) : FnOk P w K mg base (L2.CX P w) 8 T.a_size_of T.d_size_of ["points"] (fun vs H Q E => ∃ x b, vs = [x] ∧ AV K 3 40 H x b ∧ Tbs T.ts H ∧ (b = false → ∀ H', Same H H' → Rz T.C_BadValue (.str "points") H' E) ∧ (b = true → ∀ v H', Same H H' → Q v H')) := by
  refine T.F_size_of.okX sc_size_of (fun vs H Q E h => ?_) (fun cdv A outer s H vs Q E hr h => ?_)
  · obtain ⟨x, b, rfl, h1, tb, k1, k⟩ := h
    rfl
  · obtain ⟨x, b, rfl, h1, tb, k1, k⟩ := h
    refine ⟨_, (pss_cons (ps_expr (pe_call (ok_need T TB) (hr.mono (by omega)) rfl T.m_need T.F_need.kp T.b_need .nil (passes_call (takes_of rfl rfl rfl rfl) (fun _ _ _ _ h => h)) (pa_cons (pe_call (ok_are_points T TB) (hr.mono (by omega)) rfl T.m_are_points T.F_are_points.kp T.b_are_points .nil pass0 (pa_cons (pv 0) (pa_cons (pe_gI T.c_LEAST_OF_RING) (pa_cons (pe_gI T.c_MOST_OF_RING) pa_nil)))) (pa_cons pe_str pa_nil))))
      (pss_one (ps_ret (pe_call (ok_area_around T TB) (hr.mono (by omega)) rfl T.m_area_around T.F_area_around.kp T.b_area_around .nil pass0 (pa_cons (pv 0) pa_nil))))), ?_⟩
    refine ⟨_, rfl, _, _, _, _, rfl, h1, tb, fun H1 s1 => ⟨_, _, rfl, fun e1 => ?_, fun e1 => k1 e1 _ s1⟩⟩
    subst e1
    obtain ⟨a, zs, rfl, ha, l1, l2⟩ := h1.get
    exact ⟨_, rfl, _, _, rfl, ha.same s1, by omega, by omega, tb.same s1, fun H2 s2 => k rfl _ H2 (s1.trans s2)⟩
theorem ok_place_in (T : Txt K mg) (TB : TxtB T base w) : FnOk P w K mg base (L2.CX P w) 14 T.a_place_in T.d_place_in ["p", "ring"] (fun vs H Q E => ∃ x y b c, vs = [x, y] ∧ PV K H x b ∧ RgV K H y c ∧ Tbs T.ts H ∧ (b = false → ∀ H', Same H H' → Rz T.C_BadValue (.str "p") H' E) ∧ (b = true → c = false → ∀ H', Same H H' → Rz T.C_BadValue (.str "ring") H' E) ∧ (b = true → c = true → ∀ v H', Same H H' → Q v H')) := by
  refine T.F_place_in.okX sc_place_in (fun vs H Q E h => ?_) (fun A outer s H vs Q E hr h => ?_)
  · obtain ⟨x, y, b, c, rfl, h1, h2, tb, k1, k2, k⟩ := h
    rfl
  · obtain ⟨x, y, b, c, rfl, h1, h2, tb, k1, k2, k⟩ := h
    refine ⟨_, (pss_cons (ps_expr (pe_call (ok_need T TB) (hr.mono (by omega)) rfl T.m_need T.F_need.kp T.b_need .nil (passes_call (takes_of rfl rfl rfl rfl) (fun _ _ _ _ h => h)) (pa_cons (pe_call (ok_is_point T TB) (hr.mono (by omega)) rfl T.m_is_point T.F_is_point.kp T.b_is_point .nil pass0 (pa_cons (pv 0) pa_nil)) (pa_cons pe_str pa_nil))))
      (pss_cons (ps_expr (pe_call (ok_need T TB) (hr.mono (by omega)) rfl T.m_need T.F_need.kp T.b_need .nil (passes_call (takes_of rfl rfl rfl rfl) (fun _ _ _ _ h => h)) (pa_cons (pe_call (ok_is_ring T TB) (hr.mono (by omega)) rfl T.m_is_ring T.F_is_ring.kp T.b_is_ring .nil pass0 (pa_cons (pv 1) pa_nil)) (pa_cons pe_str pa_nil))))
      (pss_cons (ps_if (pt_val (Gx.pe_gen true (own := [("edge", 3)]) (g := gName 3) (tt := tYes) (x := "edge") (k := 2) rfl (hr.mono (by omega)) rfl sc_place_in.nd rfl T.n_any TB.t_place_in rfl (Gx.genS_by rfl rfl (by decide +kernel) rfl rfl (by rfl)) (blkOk_by (own := [("edge", 3)]) (N := N_place_in) (sc := defScope s_place_in) (by decide +kernel)) (pi_list (pe_call (ok_edges_along T TB) (hr.mono (by omega)) rfl T.m_edges_along T.F_edges_along.kp T.b_edges_along .nil pass0 (pa_cons (pe_op op_catA (pv 1) (pe_slice sl_tupA (pv 1) po_none (po_some pe_int))) pa_nil))) (fun _ _ _ _ _ _ _ hB => (pg_name (i := 3) sc_place_in.nd rfl (Or.inl rfl))) (fun _ _ _ _ _ _ _ hB => pts_nil) (fun _ _ _ _ _ _ _ hB => (pe_call (ok_is_on T TB) (hB.mono (by omega)) rfl T.m_is_on T.F_is_on.kp T.b_is_on .nil pass0 (pa_cons (pv 0) (pa_cons (pv 3) pa_nil)))) (fun _ => rfl)))
        (pss_one (ps_ret pe_str))
        pss_nil)
      (pss_cons (ps_set (i := 2) sc_place_in.nd rfl (Or.inl rfl) (Gx.pe_sum (own := [("a", 4), ("b", 5)]) (g := gTup K 2 (gCons (gName 4) (gCons (gName 5) gNil))) (x := "a") (k := 2) (hr.mono (by omega)) rfl sc_place_in.nd rfl T.n_sum TB.t_place_in rfl (Gx.genS_by rfl rfl (by decide +kernel) rfl rfl (by rfl)) (blkOk_by (own := [("a", 4), ("b", 5)]) (N := N_place_in) (sc := defScope s_place_in) (by decide +kernel)) (pi_list (pe_call (ok_ways_around T TB) (hr.mono (by omega)) rfl T.m_ways_around T.F_ways_around.kp T.b_ways_around .nil pass0 (pa_cons (pv 1) pa_nil))) (fun _ _ _ _ _ _ _ hB => (pg_tup (by rfl) (pgs_cons (pg_name (i := 4) sc_place_in.nd rfl (Or.inl rfl)) (pgs_cons (pg_name (i := 5) sc_place_in.nd rfl (Or.inl rfl)) pgs_nil)))) (fun _ _ _ _ _ _ _ hB => (pts_one (pt_val (pe_call (ok_crosses_east T TB) (hB.mono (by omega)) rfl T.m_crosses_east T.F_crosses_east.kp T.b_crosses_east .nil pass0 (pa_cons (pv 0) (pa_cons (pv 4) (pa_cons (pv 5) pa_nil))))))) (fun _ _ _ _ _ _ _ hB => pe_int) (fun _ => rfl)))
      (pss_one (ps_ret (pe_ifExp (pt_truth (pe_op op_and (pv 2) pe_int) (by intro _; rfl)) pe_str pe_str))))))), ?_⟩
    refine ⟨_, rfl, x, b, rfl, h1, _, _, rfl, fun e1 => ?_, fun e1 => k1 e1 _ (Same.refl _)⟩
    subst e1
    rcases h2 with ⟨a, zs, rfl, ha, lz, hb0⟩ | ⟨av, rfl⟩
    rotate_left
    · exact ⟨_, rfl, _, rfl, tb, .inr ⟨av, fun H1 s1 => ⟨_, _, rfl, (fun z => Bool.noConfusion z), fun _ => k2 rfl rfl _ s1⟩⟩⟩
    refine ⟨_, rfl, _, rfl, tb, .inl ⟨a, zs, rfl, ha, lz, fun b1 H1 hb s1 => ⟨_, _, rfl, fun e2 => ?_, fun e2 => k2 rfl (Bool.eq_false_iff.mpr fun z => by rw [hb.mpr (hb0.mp z)] at e2; cases e2) _ s1⟩⟩⟩
    have ok := hb.mp e2
    obtain ⟨p, ⟨px, py⟩, rfl, hp, op⟩ := h1.get
    have k : ∀ H', Same H H' → Q (.str (placeS (px, py) zs)) H' := fun H' s => k rfl (hb0.mpr ok) _ H' s
    have l1 := ok.l3
    have l2 := ok.lm
    dsimp only
    refine Gx.step_gen fun Q' hQ => ?_
    have ha1 := ha.same s1
    refine ⟨_, rfl, _, rfl, _, rfl, ?_⟩
    refine slA_of ha1.t fun q3 H6 s6 h3 => ?_
    rw [show ((1 : Int)) = ((1 : Nat) : Int) from rfl, cut_take, refs_take] at h3
    have big : 1000 ≤ sizeLine := by decide
    refine catA_of (tSame s6 ha1.t) h3 (by rw [refs_len, refs_len, List.length_take]; omega) fun q4 H7 s7 h4 => ?_
    rw [← refs_app] at h4
    have hln4 : LnAt K H7 q4 (zs ++ zs.take 1) := (ha1.same (s6.trans s7)).sub (fun z hz => (List.mem_append.mp hz).elim id List.mem_of_mem_take) h4
    have lr := row_len (zs := zs) (by omega)
    have hne : Ne (zs ++ zs.take 1) := fun i u w h1 h2 z => by
      have := (List.getElem?_eq_some_iff.mp h2).1
      refine ok.simp.ne i (by omega) ?_
      rw [(ring_row h1).1, (ring_row h2).1]
      exact pt_eq z.1 z.2
    refine ⟨_, _, rfl, hln4, by omega, by omega, hne, fun l2_ gs H8 s8 hl2 hlen2 hgs => ?_⟩
    have s18 := (s1.trans s6).trans (s7.trans s8)
    have lg : (gs.map V.ref).length = zs.length := by rw [List.length_map]; omega
    refine ⟨_, rfl, ⟨_, hl2⟩, (tb.same s18) _ (by simp [Txt.ts]), fun H9 g9 => ?_⟩
    have s9 := same_tab ((tb.same s18) _ (by simp [Txt.ts])) g9
    refine Gx.gen_walk walk_list (fun i H' => Same H8 H' ∧ ∀ j, j < i → box (px, py) (pt zs j) (pt zs (j + 1)) = false) ⟨s9, fun j h => absurd h (Nat.not_lt_zero _)⟩ (fun i H' h => h.1.seq hl2) ?_ ?_
    · rintro i x H10 H11 hi ⟨s10, hd⟩ ⟨rfl, hxi⟩
      rw [List.getElem?_map] at hxi
      obtain ⟨g, g1, rfl⟩ := Option.map_eq_some_iff.mp hxi
      obtain ⟨u, w, hu, hw, mu, mw, eu, ew⟩ := row_at (zs := zs) (i := i) (by omega)
      obtain ⟨ai, ci, Si⟩ := ((hgs i g u w g1 hu hw).same s10).ord
      have s110 := s18.trans s10
      refine ⟨rfl, yesI ?_⟩
      refine iteT ?_
      refine ⟨_, rfl, _, rfl, _, _, _, _, _, _, _, _, _, _, rfl, tSame s110 hp, Si, op, _, rfl, ?_⟩
      have eb : onI (ord u.2 w.2).1.1 (ord u.2 w.2).1.2 (ord u.2 w.2).2.1 (ord u.2 w.2).2.2 px py = box (px, py) (pt zs i) (pt zs (i + 1)) := by
        rw [eu, ew]
        exact box_ord (p := (px, py)) (by have := ok.simp.ne i (by omega); rw [eu, ew] at this; exact this)
      rw [eb]
      by_cases q : box (px, py) (pt zs i) (pt zs (i + 1)) = true
      · refine (if_pos q).mpr ?_
        rw [hQ]
        have k := k _ s110
        unfold placeS at k
        rw [if_pos (onRing_yes (by omega) q)] at k
        exact ⟨_, rfl, iteT k⟩
      · refine (if_neg q).mpr ⟨s10, fun j hj => ?_⟩
        by_cases e : j = i
        · subst e
          exact Bool.eq_false_iff.mpr q
        · exact hd j (by omega)
    rintro H10 ⟨s10, hd⟩
    rw [hQ]
    refine ⟨_, rfl, iteF ?_⟩
    rw [lg] at hd
    have s110 := s18.trans s10
    have ha10 := ha.same s110
    have tb10 := tb.same s110
    unfold tNext
    dsimp only
    refine Gx.asg_sum fun Q2 hQ2 => ?_
    refine ⟨_, rfl, _, _, rfl, ha10, by omega, by omega, fun l ps H11 s11 hl hlen hps => ⟨_, rfl, ⟨_, hl⟩, (tb10.same s11) _ (by simp [Txt.ts]), fun H12 g12 => ?_⟩⟩
    have s12 := same_tab ((tb10.same s11) _ (by simp [Txt.ts])) g12
    have lp : (ps.map V.ref).length = zs.length := by rw [List.length_map]; exact hlen
    refine Gx.sum_walk walk_list (fun i t H' => Same H12 H' ∧ t = (cntE (px, py) zs i : Int)) ⟨Same.refl _, rfl⟩ (fun i t H' h => h.1.seq (s12.seq hl)) ?_ ?_
    · rintro i t x H13 H14 hi ⟨s13, ht⟩ ⟨rfl, hxi⟩
      rw [List.getElem?_map] at hxi
      obtain ⟨g, g1, rfl⟩ := Option.map_eq_some_iff.mp hxi
      obtain ⟨u, w, hu, hw, mu, mw, eu, ew⟩ := ring_next (zs := zs) (i := i) (by omega)
      have s1213 := s12.trans s13
      have sa := (s110.trans s11).trans s1213
      have haa := ha.same sa
      have cl := cntE_le (px, py) zs i
      refine ⟨_, _, rfl, tSame s1213 (hps i g u w g1 hu hw), rfl, _, _, rfl, _, _, rfl, rfl, ⟨rfl, ?_⟩⟩
      refine ⟨_, rfl, _, rfl, _, rfl, _, _, _, (px, py), u.2, w.2, rfl, tSame sa hp, haa.p u mu, haa.p w mw, ⟨ha.on u mu, ha.on w mw⟩, fun H15 s15 => ⟨_, rfl, ?_⟩⟩
      have es : cntE (px, py) zs (i + 1) = cntE (px, py) zs i + b2n (eastB (px, py) u.2 w.2) := by
        show _ + b2n (eastB _ (pt zs i) (pt zs (i + 1))) = _
        rw [eu, ew]
      dsimp only
      by_cases q : eastB (px, py) u.2 w.2 = true
      · rw [if_pos q]
        rw [q] at es
        have es : cntE (px, py) zs (i + 1) = cntE (px, py) zs i + 1 := es
        exact ⟨1, rfl, ⟨by omega, by omega⟩, ⟨by omega, by omega⟩, s13.trans s15, by rw [ht, es]; rfl⟩
      · rw [if_neg q]
        rw [Bool.not_eq_true] at q
        rw [q] at es
        have es : cntE (px, py) zs (i + 1) = cntE (px, py) zs i + 0 := es
        exact ⟨s13.trans s15, by rw [ht, es]; rfl⟩
    · rintro t H13 ⟨s13, ht⟩
      rw [hQ2]
      have k := k _ (((s110.trans s11).trans s12).trans s13)
      rw [lp] at ht
      unfold placeS at k
      rw [if_neg (by rw [onRing_no hd]; decide)] at k
      have em : Builtin.bitAnd (cntE (px, py) zs zs.length : Int) 1 = ((cntE (px, py) zs zs.length % 2 : Nat) : Int) := by rw [PyProof.Rows.bitAnd_m1]; omega
      subst ht
      refine ⟨_, rfl, _, _, rfl, rfl, _, rfl, ?_⟩
      dsimp only
      rw [em]
      by_cases q : cntE (px, py) zs zs.length % 2 = 1
      · rw [if_pos q] at k
        rw [q]
        exact k
      · rw [if_neg q] at k
        rw [show cntE (px, py) zs zs.length % 2 = 0 by omega]
        exact k
theorem ok_left_turns (T : Txt K mg) (TB : TxtB T base w) : FnOk P w K mg base CX0 2 T.a_left_turns T.d_left_turns ["points"] (fun vs H Q _ => ∃ (l : Addr) (zs : List Zp), vs = [.ref l] ∧ SqL K H l (refs zs) ∧ Pts K H zs ∧ (∀ z ∈ zs, On z.2.1 z.2.2) ∧ zs.length ≤ 100 ∧ ∀ p (ws : List Zp) H', Same H H' → H' p = some (.lst (refs ws)) → (∀ w ∈ ws, w ∈ zs) → crd ws = (chainS (crd zs).reverse).reverse → Q (.ref p) H') := by
  refine T.F_left_turns.ok sc_left_turns (fun vs H Q E h => ?_) (fun cdv A outer s H vs Q E hr h => ?_)
  · obtain ⟨l, zs, rfl, hl, hp, ho, lz, k⟩ := h
    rfl
  · obtain ⟨l, zs, rfl, hl, hp, ho, lz, k⟩ := h
    refine ⟨_, (pss_cons (ps_set (i := 1) sc_left_turns.nd rfl (Or.inl rfl) (pe_lst pa_nil))
      (pss_cons (ps_for PassesOwn.never rfl (pi_list (pv 0)) (pg_name (i := 2) sc_left_turns.nd rfl (Or.inl rfl))
        (pss_cons (ps_while PassesOwn.never (PW.pt (pw_and (pt_cmpR op_ge (pe_callB call_len (by rfl) T.n_len (by decide +kernel) (pa_cons (pv 1) pa_nil)) pe_int (nomark _)) (pw_and1 (pt_cmpR op_le (pe_call (ok_turn_of T TB) (hr.mono (by omega)) rfl T.m_turn_of T.F_turn_of.kp T.b_turn_of .nil pass0 (pa_cons (pe_ix (r := rIxL K) ix_list (pv 1) (pe_un un_neg pe_int) (fun _ _ => rfl)) (pa_cons (pe_ix (r := rIxL K) ix_list (pv 1) (pe_un un_neg pe_int) (fun _ _ => rfl)) (pa_cons (pv 2) pa_nil)))) pe_int (nomark _)))))
          (pss_one (ps_expr (pe_bm0 PySem.F.plainAttrs_list PySem.F.slot_list_pop PySem.F.type_list_pop mt_pop (pv 1)))))
        (pss_one (ps_expr (pe_bm PySem.F.plainAttrs_list PySem.F.slot_list_append PySem.F.type_list_append mt_append (pv 1) (pa_cons (pv 2) pa_nil))))))
      (pss_one (ps_ret (pv 1))))), ?_⟩
    refine ⟨small rfl, fun D hD => ?_⟩
    have hl1 := Same.seq (same_new (o := HO.lst []) hD) hl
    refine ⟨_, rfl, _, rfl, ⟨_, hl1⟩, for_it (walk_list (xs := refs zs)) (fun i σ H' => (∃ o, σ = [some (.ref l), some (.ref D), o]) ∧ Same H H' ∧ ∃ st : List Zp, H' D = some (.lst (refs st.reverse)) ∧ (∀ w ∈ st, w ∈ zs) ∧ st.length ≤ i ∧ crd st = chainS (crd (zs.take i)).reverse) ⟨⟨_, rfl⟩, same_new hD, [], upd_same, (fun w h => by cases h), Nat.le_refl _, rfl⟩ (fun i σ H' _ q => q.2.1.seq hl) ?_ ?_⟩
    · rintro i x σ H1 H2 hi ⟨⟨o, rfl⟩, s1, st, hD1, sub, lst_, ec⟩ ⟨rfl, hx⟩
      rw [List.getElem?_map] at hx
      obtain ⟨z, hz, rfl⟩ := Option.map_eq_some_iff.mp hx
      have mz := List.mem_of_getElem? hz
      have oz := ho z mz
      have hi : i < zs.length := (List.getElem?_eq_some_iff.mp hz).1
      refine ⟨fun m σ' H' => σ' = [some (.ref l), some (.ref D), some (.ref z.1)] ∧ Same H H' ∧ ∃ st' : List Zp, H' D = some (.lst (refs st'.reverse)) ∧ (∀ w ∈ st', w ∈ zs) ∧ popR z.2 (crd st') = popR z.2 (crd st) ∧ st'.length ≤ i ∧ st'.length = m, ⟨st.length, rfl, s1, st, hD1, sub, rfl, lst_, rfl⟩, ?_⟩
      rintro m σ' H' ⟨rfl, s2, st', hD2, sub', epop, lst', rfl⟩
      have done : popR z.2 (crd st') = crd st' → crd (z :: st') = chainS (crd (zs.take (i + 1))).reverse := fun e => by
        rw [List.take_succ, hz, crd_app, List.reverse_append]
        show z.2 :: crd st' = z.2 :: popR z.2 (chainS (crd (zs.take i)).reverse)
        rw [← ec, ← epop, e]
      have app : ∀ H3, Same H' H3 → H3 D = some (.lst (refs st'.reverse)) → popR z.2 (crd st') = crd st' → (∃ o, [some (V.ref l), some (V.ref D), some (V.ref z.1)] = [some (V.ref l), some (V.ref D), o]) ∧ Same H (upd H3 D (.lst (refs st'.reverse ++ [.ref z.1]))) ∧ ∃ st : List Zp, (upd H3 D (.lst (refs st'.reverse ++ [.ref z.1]))) D = some (.lst (refs st.reverse)) ∧ (∀ w ∈ st, w ∈ zs) ∧ st.length ≤ i + 1 ∧ crd st = chainS (crd (zs.take (i + 1))).reverse := fun H3 s3 h3 e => ⟨⟨_, rfl⟩, (s2.trans s3).put hD, z :: st', by rw [upd_same, refs_back], fun w hw => (List.mem_cons.mp hw).elim (fun e => e ▸ mz) (sub' w), by rw [List.length_cons]; omega, done e⟩
      have ln : (refs st'.reverse).length = st'.length := by rw [refs_len, List.length_reverse]
      refine ⟨_, rfl, _, _, rfl, .inl ⟨_, SqL.of hD2, rfl⟩, _, _, rfl, rfl, _, rfl, ifD (fun e => ?_) (fun e => ?_)⟩
      rotate_left
      · have e : ¬ (2 ≤ st'.length) := by rw [ln] at e; omega
        have ep : popR z.2 (crd st') = crd st' := by
          match st', e with
          | [], _ => rfl
          | [_], _ => rfl
          | _ :: _ :: _, e => exact absurd (by simp) e
        exact ⟨_, rfl, tyL hD2, _, rfl, _, _, _, rfl, rfl, hD2, by rw [ln]; exact line_of (by omega), app H' (Same.refl _) hD2 ep⟩
      match st', e, hD2, sub', epop, lst', app, ln with
      | [], e, _, _, _, _, _, _ => exact absurd e (by decide)
      | [_], e, _, _, _, _, _, ln => exact absurd e (by rw [ln]; simp)
      | c :: b :: r, e, hD2, sub', epop, lst', app, ln =>
        have mc := sub' c (by simp)
        have mb := sub' b (by simp)
        have hp2 := hp.same s2
        have ob := ho b mb
        have oc := ho c mc
        refine ⟨_, rfl, _, rfl, _, _, _, _, rfl, rfl, SqL.of hD2, at_back2 c b r, _, rfl, _, rfl, _, _, _, _, rfl, rfl, SqL.of hD2, at_back1 c (b :: r), _, rfl, _, _, _, _, _, _, _, _, _, rfl, hp2 b mb, hp2 c mc, hp2 z mz, ⟨ob.sx, oc.sx, ob.sy, oc.sy⟩, _, _, rfl, rfl, _, rfl, ifD (fun e2 => ?_) (fun e2 => ?_)⟩
        · have e2 : tn b.2 c.2 z.2 ≤ 0 := e2
          have ep : popR z.2 (crd (c :: b :: r)) = popR z.2 (crd (b :: r)) := if_pos e2
          refine ⟨fun σ' H3 => σ' = [some (.ref l), some (.ref D), some (.ref z.1)] ∧ Same H H3 ∧ H3 D = some (.lst (refs (b :: r).reverse)), ?_, ?_⟩
          · rintro σ' H3 ⟨rfl, s3, h3⟩
            exact ⟨(b :: r).length, by simp, rfl, s3, b :: r, h3, fun w hw => sub' w (List.mem_cons_of_mem _ hw), by rw [← ep]; exact epop, by rw [List.length_cons] at lst'; omega, rfl⟩
          · exact ⟨_, rfl, tyL hD2, _, _, _, rfl, rfl, hD2, last_back c (b :: r), rfl, s2.put hD, by rw [upd_same, drop_back]⟩
        · have e2 : ¬ tn b.2 c.2 z.2 ≤ 0 := e2
          have ep : popR z.2 (crd (c :: b :: r)) = crd (c :: b :: r) := if_neg e2
          exact ⟨_, rfl, tyL hD2, _, rfl, _, _, _, rfl, rfl, hD2, by rw [ln]; exact line_of (by omega), app H' (Same.refl _) hD2 ep⟩
    · rintro σ H1 ⟨⟨o, rfl⟩, s1, st, hD1, sub, lst_, ec⟩
      rw [List.take_of_length_le (by rw [refs_len]; exact Nat.le_refl _)] at ec
      refine ⟨_, rfl, k D st.reverse H1 s1 hD1 (fun w h => sub w (List.mem_reverse.mp h)) ?_⟩
      rw [← ec]
      exact List.map_reverse
theorem ok_hull_of (T : Txt K mg) (TB : TxtB T base w) : FnOk P w K mg base (L2.CX P w) 8 T.a_hull_of T.d_hull_of ["points"] (fun vs H Q E => ∃ x b, vs = [x] ∧ AV K 1 60 H x b ∧ Tbs T.ts H ∧ (b = false → ∀ H', Same H H' → Rz T.C_BadValue (.str "points") H' E) ∧ (b = true → ∀ v H', Same H H' → Q v H')) := by
  refine T.F_hull_of.okX sc_hull_of (fun vs H Q E h => ?_) (fun cdv A outer s H vs Q E hr h => ?_)
  · obtain ⟨x, b, rfl, h1, tb, k1, k⟩ := h
    rfl
  · obtain ⟨x, b, rfl, h1, tb, k1, k⟩ := h
    refine ⟨_, (pss_cons (ps_expr (pe_call (ok_need T TB) (hr.mono (by omega)) rfl T.m_need T.F_need.kp T.b_need .nil (passes_call (takes_of rfl rfl rfl rfl) (fun _ _ _ _ h => h)) (pa_cons (pe_call (ok_are_points T TB) (hr.mono (by omega)) rfl T.m_are_points T.F_are_points.kp T.b_are_points .nil pass0 (pa_cons (pv 0) (pa_cons pe_int (pa_cons (pe_gI T.c_MOST_OF_HULL) pa_nil)))) (pa_cons pe_str pa_nil))))
      (pss_cons (ps_set (i := 1) sc_hull_of.nd rfl (Or.inl rfl) (pe_callB (SetP.cr_sortedPK (P := P) (w := w) rfl rfl rfl hr.units) (by rfl) T.n_sorted (by decide +kernel) (pa_cons (pe_callTy (SetP.cr_setPK (P := P) (w := w) rfl rfl rfl hr.units) (by rfl) T.n_set (by decide +kernel) (pa_cons (pv 0) pa_nil)) pa_nil)))
      (pss_cons (ps_if (pt_cmpR op_eq (pe_callB call_len (by rfl) T.n_len (by decide +kernel) (pa_cons (pv 1) pa_nil)) pe_int (nomark _))
        (pss_one (ps_ret (pe_tup (pa_cons (pe_ix (r := rIxL K) ix_list (pv 1) pe_int (fun _ _ => rfl)) pa_nil))))
        pss_nil)
      (pss_cons (ps_set (i := 2) sc_hull_of.nd rfl (Or.inl rfl) (pe_call (ok_left_turns T TB) (hr.mono (by omega)) rfl T.m_left_turns T.F_left_turns.kp T.b_left_turns .nil pass0 (pa_cons (pv 1) pa_nil)))
      (pss_cons (ps_set (i := 3) sc_hull_of.nd rfl (Or.inl rfl) (pe_call (ok_left_turns T TB) (hr.mono (by omega)) rfl T.m_left_turns T.F_left_turns.kp T.b_left_turns .nil pass0 (pa_cons (pe_revL (pv 1)) pa_nil)))
      (pss_one (ps_ret (pe_callTy call_tuple_ofN (by rfl) T.n_tuple (by decide +kernel) (pa_cons (pe_op op_cat (pe_slice sl_list (pv 2) po_none (po_some (pe_un un_neg pe_int))) (pe_slice sl_list (pv 3) po_none (po_some (pe_un un_neg pe_int)))) pa_nil))))))))), ?_⟩
    refine ⟨_, rfl, _, _, _, _, rfl, h1, tb, fun H1 s1 => ⟨_, _, rfl, fun e1 => ?_, fun e1 => k1 e1 _ s1⟩⟩
    subst e1
    obtain ⟨a, zs, rfl, ha, l1, lm⟩ := h1.get
    have l1 : 1 ≤ zs.length := by omega
    have lm : zs.length ≤ 60 := by omega
    have k : ∀ (c : Addr) (ws : List Zp) H', LnAt K H' c ws → Wrap (crd zs) (crd ws) → Same H H' → Q (.ref c) H' := fun c ws H' _ _ s => k rfl _ H' s
    have ha := ha.same s1
    refine ⟨_, rfl, a, zs, rfl, ha.t, ha.p, by omega, fun p bs hp hb hz => ?_⟩
    have sp := same_new (o := L2.SetTO P w p (bs.map SetP.row2)) hp
    have ha2 := ha.same sp
    have pb : Pts K _ bs := fun b mb => ha2.p b (hb b mb)
    refine ⟨p, bs, rfl, upd_same, pb, fun q cs perm nd few hq => ?_⟩
    obtain ⟨ms, hms⟩ : ∃ ms, cs.mergeSort (fun p q : Pn => decide (p.2.1 < q.2.1 ∨ (p.2.1 = q.2.1 ∧ p.2.2 ≤ q.2.2))) = ms := ⟨_, rfl⟩
    have asc := sorted_asc nd
    have pm := sortP_perm cs
    rw [hms] at asc pm ⊢
    have sub : ∀ z ∈ ms, z ∈ zs := fun z hz' => hb z (perm.mem_iff.mp (pm.mem_iff.mp hz'))
    have iff_ : ∀ x, x ∈ crd ms ↔ x ∈ crd zs := fun x => by
      constructor
      · intro h
        obtain ⟨z, mz, rfl⟩ := List.mem_map.mp h
        exact mem_crd (sub z mz)
      · intro h
        obtain ⟨z, mz, rfl⟩ := List.mem_map.mp h
        obtain ⟨b, mb, eb⟩ := List.mem_map.mp (hz z mz)
        rw [← eb]
        exact mem_crd (pm.mem_iff.mpr (perm.mem_iff.mpr mb))
    have nodup_ := sorted_nodup asc
    have fewm : ms.length < 64 := by rw [pm.length_eq]; exact few
    have sq := same_new (o := HO.lst (ms.map pnV)) hq
    have s13 := (s1.trans sp).trans sq
    have ha3 := ha2.same sq
    have hms0 : (upd (upd H1 p (L2.SetTO P w p (bs.map SetP.row2))) q (.lst (ms.map pnV))) q = some (.lst (refs ms)) := upd_same
    generalize upd (upd H1 p (L2.SetTO P w p (bs.map SetP.row2))) q (.lst (ms.map pnV)) = G at sq s13 ha3 hms0 ⊢
    have hms1 : SqL K G q (refs ms) := SqL.of hms0
    have pms : Pts K G ms := fun z mz => ha3.p z (sub z mz)
    have oms : ∀ z ∈ ms, On z.2.1 z.2.2 := fun z mz => ha3.on z (sub z mz)
    have ne0 : ms ≠ [] := fun e => by
      obtain ⟨z, mz⟩ : ∃ z, z ∈ zs := ⟨_, List.getElem_mem (show 0 < zs.length by omega)⟩
      have := (iff_ z.2).mpr (mem_crd mz)
      rw [e] at this
      cases this
    refine ⟨_, rfl, _, _, rfl, .inl ⟨_, hms1, rfl⟩, rfl, _, rfl, ifD (fun e => ?_) (fun e => ?_)⟩
    · have e : ms.length = 1 := by
        injection e with e
        rw [refs_len] at e
        omega
      obtain ⟨m, rfl⟩ : ∃ m, ms = [m] := by
        match ms, e with
        | [m], _ => exact ⟨m, rfl⟩
      refine ⟨_, rfl, _, _, _, _, rfl, rfl, hms1, at0, small rfl, fun c hc => ?_⟩
      exact k c [m] _ ⟨tHere, fun z mz => tOver hc (pms z mz), oms⟩ ((wrap_one m.2).of nodup_ iff_) (s13.trans (same_new hc))
    have two : 2 ≤ (crd ms).length := by
      have e : ms.length ≠ 1 := fun z => e (by rw [refs_len, z]; rfl)
      rw [List.length_map]
      cases ms with
      | nil => exact absurd rfl ne0
      | cons x r => rw [List.length_cons] at e ⊢; omega
    have WW := (wrap_of asc two).of nodup_ iff_
    clear asc nodup_ iff_ pm perm nd
    refine ⟨_, rfl, _, ms, rfl, hms1, pms, oms, by omega, fun d1_ ws H2 s2 hd1 sub1 e1 => ?_⟩
    have hms2 := Same.seq s2 hms1
    have pms2 : Pts K H2 ms := pms.same s2
    refine ⟨_, rfl, _, _, rfl, hms2, fun r hr => ?_⟩
    have sr := same_new (o := HO.lst (refs ms).reverse) hr
    have er : refs ms.reverse = (refs ms).reverse := List.map_reverse
    refine ⟨_, ms.reverse, rfl, by rw [er]; exact lHere, fun z mz => (pms2.same sr) z (List.mem_reverse.mp mz), fun z mz => oms z (List.mem_reverse.mp mz), by rw [List.length_reverse]; omega, fun d2_ vs H3 s3 hd2 sub2 e2 => ?_⟩
    have hd1 := s3.get (sr.get hd1)
    rw [crd_rev, List.reverse_reverse] at e2
    have pms3 : Pts K H3 ms := (pms2.same sr).same s3
    have s33 := ((s13.trans s2).trans sr).trans s3
    clear hms1 hms2 ha3 pms2 pms
    refine ⟨_, rfl, _, rfl, _, rfl, ?_⟩
    refine ⟨_, _, rfl, SqL.of hd1, fun c1 w1 => ?_⟩
    rw [cut_m1, refs_init]
    have hd2 := rOver (o := HO.lst (refs ws.dropLast)) w1 hd2
    have lw := chain_len e1
    have lv := chain_len e2
    rw [List.length_reverse, List.length_map] at lw
    rw [List.length_map] at lv
    have big : 1000 ≤ sizeLine := by decide
    refine ⟨_, rfl, _, rfl, _, rfl, ?_⟩
    refine ⟨_, _, rfl, SqL.of hd2, fun c2 w2 => ?_⟩
    rw [cut_m1, refs_init]
    have h1 : upd (upd H3 c1 (.lst (refs ws.dropLast))) c2 (.lst (refs vs.dropLast)) c1 = some (.lst (refs ws.dropLast)) := rOver w2 upd_same
    refine ⟨_, _, _, _, rfl, rfl, h1, upd_same, by rw [refs_len, refs_len, List.length_dropLast, List.length_dropLast]; omega, fun r2 wr => ?_⟩
    rw [← refs_app]
    have sE := ((same_new (o := HO.lst (refs ws.dropLast)) w1).trans (same_new (o := HO.lst (refs vs.dropLast)) w2)).trans (same_new (o := HO.lst (refs (ws.dropLast ++ vs.dropLast))) wr)
    refine ⟨_, _, rfl, SqL.of upd_same, fun t o ht ho => ?_⟩
    have mem : ∀ z ∈ ws.dropLast ++ vs.dropLast, z ∈ ms := fun z hz => (List.mem_append.mp hz).elim (fun h => sub1 z ((List.dropLast_sublist _).subset h)) fun h => List.mem_reverse.mp (sub2 z ((List.dropLast_sublist _).subset h))
    refine k t (ws.dropLast ++ vs.dropLast) _ ⟨(TN.here ho).t, fun z hz => ((pms3.same sE).over ht) z (mem z hz), fun z hz => oms z (mem z hz)⟩ ?_ ((s33.trans sE).trans (same_new ht))
    rw [crd_app, crd_init, crd_init, e1, e2]
    exact WW
theorem ok_are_corners (T : Txt K mg) (TB : TxtB T base w) : FnOk P w K mg base CX0 7 T.a_are_corners T.d_are_corners ["points", "value"] (fun vs H Q _ => ∃ x, vs = [x, .non] ∧ Q (.bl false) H) := by
  refine T.F_are_corners.ok sc_are_corners (fun vs H Q E h => ?_) (fun A outer s H vs Q E hr h => ?_)
  · obtain ⟨x, rfl, k⟩ := h
    rfl
  · obtain ⟨x, rfl, k⟩ := h
    refine ⟨_, (pss_cons (ps_if (PW.pt (pw_or (pt_not (pt_val (pe_callB call_isi (by rfl) T.n_isinstance (by decide +kernel) (pa_cons (pv 1) (pa_cons (pe_bltn (v := .ty "tuple") (by rfl) T.n_tuple (by decide +kernel) rfl) pa_nil))))) (pw_or1 (pt_not (pt_chain op_le op_le pe_int (pe_callB call_len (by rfl) T.n_len (by decide +kernel) (pa_cons (pv 1) pa_nil)) (pe_callB call_len (by rfl) T.n_len (by decide +kernel) (pa_cons (pv 0) pa_nil)))))))
        (pss_one (ps_ret pe_bl))
        pss_nil)
      (pss_cons ps_never
      (pss_one ps_never))), ?_⟩
    have hx : Ty K H V.non "NoneType" := .non
    refine ⟨_, rfl, _, _, _, _, _, rfl, .ty _, hx.x, isaN hx.six (by simp [My.six]), _, rfl, ?_⟩
    exact (if_pos rfl).mpr ((if_pos rfl).mpr k)
theorem ok_is_hull (T : Txt K mg) (TB : TxtB T base w) : FnOk P w K mg base (L2.CX P w) 11 T.a_is_hull T.d_is_hull ["points", "value"] (fun vs H Q E => ∃ x b, vs = [x, .non] ∧ AV K 1 60 H x b ∧ Tbs T.ts H ∧ (b = false → ∀ H', Same H H' → Rz T.C_BadValue (.str "points") H' E) ∧ (b = true → ∀ v H', Same H H' → Q v H')) := by
  refine T.F_is_hull.okX sc_is_hull (fun vs H Q E h => ?_) (fun A outer s H vs Q E hr h => ?_)
  · obtain ⟨x, b, rfl, h1, tb, k1, k⟩ := h
    rfl
  · obtain ⟨x, b, rfl, h1, tb, k1, k⟩ := h
    refine ⟨_, (pss_cons (ps_expr (pe_call (ok_need T TB) (hr.mono (by omega)) rfl T.m_need T.F_need.kp T.b_need .nil (passes_call (takes_of rfl rfl rfl rfl) (fun _ _ _ _ h => h)) (pa_cons (pe_call (ok_are_points T TB) (hr.mono (by omega)) rfl T.m_are_points T.F_are_points.kp T.b_are_points .nil pass0 (pa_cons (pv 0) (pa_cons pe_int (pa_cons (pe_gI T.c_MOST_OF_HULL) pa_nil)))) (pa_cons pe_str pa_nil))))
      (pss_cons (ps_if (pt_not (pt_val (pe_call (ok_are_corners T TB) (hr.mono (by omega)) rfl T.m_are_corners T.F_are_corners.kp T.b_are_corners .nil pass0 (pa_cons (pv 0) (pa_cons (pv 1) pa_nil)))))
        (pss_one (ps_ret pe_bl))
        pss_nil)
      (pss_cons ps_never
      (pss_cons ps_never
      (pss_cons ps_never
      (pss_one ps_never)))))), ?_⟩
    refine ⟨_, rfl, _, _, _, _, rfl, h1, tb, fun H1 s1 => ⟨_, _, rfl, fun e1 => ?_, fun e1 => k1 e1 _ s1⟩⟩
    exact ⟨_, rfl, _, rfl, _, rfl, _, rfl, (if_pos rfl).mpr (k e1 _ _ s1)⟩
theorem ok__law_stream (T : Txt K mg) (TB : TxtB T base w) : FnOk P w K mg base CX0 1 T.a__law_stream T.d__law_stream ["script"] (fun vs H Q _ => ∃ (a : Addr) (ns : List Int), vs = [.ref a] ∧ SqL K H a (ns.map V.int) ∧ ∀ H' s b, Same H H' → H s = none → Strm H' s b → Q (.ref s) H') := by
  refine T.F__law_stream.ok sc__law_stream (fun vs H Q E h => ?_) (fun cdv A outer s H vs Q E hr h => ?_)
  · obtain ⟨a, ns, rfl, hS, k⟩ := h
    rfl
  · obtain ⟨a, ns, rfl, hS, k⟩ := h
    refine ⟨_, (pss_one (ps_ret (pe_lst (pa_cons (pe_callTy call_list_of (by rfl) T.n_list (by decide +kernel) (pa_cons (pv 0) pa_nil)) (pa_cons pe_int (pa_cons pe_int pa_nil)))))), ?_⟩
    refine ⟨_, rfl, _, _, rfl, .inl hS, fun b hb => ⟨small rfl, fun s hs => ?_⟩⟩
    have hs' := hs
    have nb : s ≠ b := fun e => by rw [e, upd_same] at hs'; cases hs'
    rw [upd_ne nb] at hs'
    exact k _ s b (same_then (same_new hb) hs) hs' ⟨ns, 0, 0, by rw [upd_ne nb.symm, upd_same], upd_same, by decide, by decide⟩
theorem ok__law_next (T : Txt K mg) (TB : TxtB T base w) : FnOk P w K mg base CX0 1 T.a__law_next T.d__law_next ["stream", "many"] (fun vs H Q _ => ∃ (s : Addr) (m : Int) (b : Addr), vs = [.ref s, .int m] ∧ 0 < m ∧ m < 2 ^ 200 ∧ Strm H s b ∧ ∀ (d : Int) H', 0 ≤ d → d < m → Strm H' s b → But s H H' → Q (.int d) H') := by
  refine T.F__law_next.ok sc__law_next (fun vs H Q E h => ?_) (fun cdv A outer s H vs Q E hr h => ?_)
  · obtain ⟨s, m, b, rfl, m0, m1, S, k⟩ := h
    rfl
  · obtain ⟨s, m, b, rfl, m0, m1, S, k⟩ := h
    refine ⟨_, (C8.pss_cut (ps_if (pt_cmpR op_eq (pe_ix (r := rIxL K) ix_list (pv 0) pe_int (fun _ _ => rfl)) pe_int (nomark _))
        (pss_cons (ps_set (i := 2) sc__law_next.nd rfl (Or.inl rfl) (pe_ix (r := rIxL K) ix_list (pv 0) pe_int (fun _ _ => rfl)))
        (pss_cons (ps_set (i := 3) sc__law_next.nd rfl (Or.inl rfl) (pe_op op_add pe_int (pv 2)))
        (C8.pss_cut (ps_if (pt_cmpR op_lt (pv 2) (pe_callB call_len (by rfl) T.n_len (by decide +kernel) (pa_cons (pe_ix (r := rIxL K) ix_list (pv 0) pe_int (fun _ _ => rfl)) pa_nil)) (nomark _))
          (pss_one (ps_set (i := 3) sc__law_next.nd rfl (Or.inl rfl) (pe_callB call_abs (by rfl) T.n_abs (by decide +kernel) (pa_cons (pe_ix (r := rIxL K) ix_list (pe_ix (r := rIxL K) ix_list (pv 0) pe_int (fun _ _ => rfl)) (pv 2) (fun _ _ => rfl)) pa_nil))))
          pss_nil)
        (C8.pss_cut (ps_if (pt_cmpR op_lt (pv 3) (pe_op op_pow pe_int pe_int) (nomark _))
          (pss_cons (ps_set (i := 3) sc__law_next.nd rfl (Or.inl rfl) (pe_op op_modN (pe_callTy call_int1 (by rfl) T.n_int (by decide +kernel) (pa_cons (pe_op op_add (pe_op op_add (pe_op op_mul (pv 3) pe_int) (pe_op op_mul (pv 2) pe_int)) pe_int) pa_nil)) pe_int))
          (pss_one (ps_set (i := 3) sc__law_next.nd rfl (Or.inl rfl) (pe_op op_add (pe_op op_mul (pe_op op_modN (pe_callTy call_int1 (by rfl) T.n_int (by decide +kernel) (pa_cons (pe_op op_add (pe_op op_mul (pv 3) pe_int) pe_int) pa_nil)) pe_int) pe_int) (pv 3)))))
          pss_nil)
        (pss_cons (ps_asg (pv 3) (pg_sub (pv 0) pe_int set_list))
        (pss_one (ps_asg (pe_op op_add (pv 2) pe_int) (pg_sub (pv 0) pe_int set_list))))))))
        pss_nil)
      (pss_cons (ps_set (i := 4) sc__law_next.nd rfl (Or.inl rfl) (pe_op op_modN (pe_callTy call_int1 (by rfl) T.n_int (by decide +kernel) (pa_cons (pe_ix (r := rIxL K) ix_list (pv 0) pe_int (fun _ _ => rfl)) pa_nil)) (pv 1)))
      (pss_cons (ps_asg (pe_op op_fdivW (pe_ix (r := rIxL K) ix_list (pv 0) pe_int (fun _ _ => rfl)) (pv 1)) (pg_sub (pv 0) pe_int set_list))
      (pss_one (ps_ret (pv 4)))))), ?_⟩
    obtain ⟨ns, c, kk, hb, hs, c0, k0⟩ := S
    have nbs : b ≠ s := Strm.ne hb hs
    refine ⟨fun σ' H' => ∃ (c kk : Int) (o1 o2 : Option V), σ' = [some (.ref s), some (.int m), o1, o2, none] ∧ H' b = some (.lst (ns.map V.int)) ∧ H' s = some (.lst [.ref b, .int c, .int kk]) ∧ 0 ≤ c ∧ 0 ≤ kk ∧ But s H H', ?_, ?_⟩
    rotate_left
    · rintro σ' H1 ⟨c, kk, o1, o2, rfl, hb, hs, c0, k0, hB⟩
      refine ⟨_, rfl, _, _, _, _, rfl, rfl, SqL.of hs, at1, .inl ⟨_, rfl, _, rfl, _, _, rfl, rfl, by omega, ?_⟩⟩
      refine ⟨_, rfl, _, _, _, _, rfl, rfl, SqL.of hs, at1, _, rfl, _, _, rfl, rfl, wide_div (b := 200) m0 (by omega) (by decide) (by decide), _, rfl, _, _, _, 1, rfl, rfl, hs, rfl, ?_⟩
      refine ⟨_, rfl, ?_⟩
      exact k _ _ (fmod_ge m0) (fmod_lt m0) ⟨ns, c / m, kk, by rw [upd_ne nbs]; exact hb, upd_same, div_ge c0 m0, k0⟩ hB.then_at
    refine ⟨_, rfl, _, _, _, _, rfl, rfl, SqL.of hs, at1, rfl, _, rfl, ?_⟩
    refine ifD (fun e => ?_) (fun e => ⟨c, kk, none, none, rfl, hb, hs, c0, k0, But.refl⟩)
    refine ⟨_, rfl, _, _, _, _, rfl, rfl, SqL.of hs, at2, _, rfl, _, _, rfl, rfl, ?_⟩
    -- if k < len(stream[0])
    have mid : ∀ (cell : Int) (t u : TS) (D : Ends) (σ : St) (H1 : Hp), t { D with nx := fun σ' H' => ∃ cell : Int, σ' = [some (.ref s), some (.int m), some (.int kk), some (.int cell), none] ∧ H' = H ∧ 0 ≤ cell } σ H1 → (∀ cell : Int, 0 ≤ cell → u D [some (.ref s), some (.int m), some (.int kk), some (.int cell), none] H) → C8.tCut t u D σ H1 := by
      intro _ t u D σ H1 h1 h2
      exact ⟨_, h1, fun σ' H' ⟨cell, e1, e2, e3⟩ => by rw [e1, e2]; exact h2 cell e3⟩
    refine mid 0 _ _ _ _ _ ?_ fun cell p0 => mid 0 _ _ _ _ _ ?_ fun cell p0 => ?_
    · refine ⟨_, rfl, _, rfl, _, _, _, _, rfl, rfl, SqL.of hs, at0, _, _, rfl, .inl ⟨_, SqL.of hb, rfl⟩, _, _, rfl, rfl, _, rfl, ?_⟩
      refine ifD (fun e => ?_) (fun e => ⟨_, rfl, rfl, by omega⟩)
      have hk : kk.toNat < ns.length := by rw [List.length_map] at e; omega
      refine ⟨_, rfl, _, _, _, _, rfl, rfl, SqL.of hs, at0, _, rfl, _, _, kk, _, rfl, rfl, SqL.of hb, at_of (j := kk.toNat) (v := V.int ns[kk.toNat]) (by omega) (by rw [List.getElem?_map, List.getElem?_eq_getElem hk]; rfl), _, rfl, ?_⟩
      exact ⟨_, rfl, rfl, by split <;> omega⟩
    · refine ⟨_, rfl, _, _, rfl, rfl, ⟨by decide, by decide, by decide⟩, _, _, rfl, rfl, _, rfl, ?_⟩
      refine ifD (fun e => ?_) (fun e => ⟨_, rfl, rfl, p0⟩)
      refine ⟨_, rfl, _, _, rfl, rfl, .inr ⟨by decide, by decide⟩, _, rfl, _, _, rfl, rfl, .inr ⟨by decide, by decide⟩, _, _, rfl, rfl, _, _, rfl, rfl, .inl ⟨_, rfl, _, _, rfl, rfl, show (2147483647 : Int) ≠ 0 by decide, ?_⟩⟩
      have q0 := fmod_ge (a := cell * 48271 + kk * 69621 + 11) (m := 2147483647) (by decide)
      refine ⟨_, rfl, _, _, rfl, rfl, .inr ⟨by decide, by decide⟩, _, _, rfl, rfl, .inl ⟨_, rfl, _, _, rfl, rfl, show (2147483647 : Int) ≠ 0 by decide, _, _, rfl, rfl, .inr ⟨by decide, by decide⟩, _, rfl, _, _, rfl, rfl, ?_⟩⟩
      have q1 := fmod_ge (a := (cell * 48271 + kk * 69621 + 11).fmod 2147483647 * 16807 + 13) (m := 2147483647) (by decide)
      exact ⟨_, rfl, rfl, by omega⟩
    refine ⟨_, rfl, _, rfl, _, _, _, 1, rfl, rfl, hs, rfl, ?_⟩
    refine ⟨_, rfl, _, _, rfl, rfl, _, rfl, _, _, _, 2, rfl, rfl, upd_same, rfl, ?_⟩
    exact ⟨cell, kk + 1, _, _, rfl, by rw [upd_ne nbs, upd_ne nbs]; exact hb, upd_same, p0, by omega, But.at.then_at⟩
theorem ok__law_sides (T : Txt K mg) (TB : TxtB T base w) : FnOk P w K mg base (L2.CX P w) 13 T.a__law_sides T.d__law_sides ["which", "row"] (fun vs H Q E => ∃ (w : Nat) (r : Addr) (ws : List V) (e : Str), vs = [.int (w : Int), .ref r] ∧ (w ≤ 4) ∧ SqL K H r ws ∧ RowF K H w ws e ∧ Tbs T.ts H ∧ (e = "" → ∀ H', Same H H' → Q .non H') ∧ (e ≠ "" → ∀ H', Same H H' → Rz T.C_BadValue (.str e) H' E)) := by
  refine T.F__law_sides.okX sc__law_sides (fun vs H Q E h => ?_) (fun cdv A outer s H vs Q E hr h => ?_)
  · obtain ⟨w, r, ws, e, rfl, hw, hrow, hf, tb, k, kE⟩ := h
    rfl
  · obtain ⟨w, r, ws, e, rfl, hw, hrow, hf, tb, k, kE⟩ := h
    refine ⟨_, (pss_one (ps_if (pt_cmpR op_eq (pv 0) pe_int (nomark _))
        (pss_one (ps_expr (pe_call (ok_turn T TB) (hr.mono (by omega)) rfl T.m_turn T.F_turn.kp T.b_turn .nil (passes_call (takes_of rfl rfl rfl rfl) (fun _ _ _ _ h => h)) (pa_cons (pe_ix (r := rIxL K) ix_list (pv 1) pe_int (fun _ _ => rfl)) (pa_cons (pe_ix (r := rIxL K) ix_list (pv 1) pe_int (fun _ _ => rfl)) (pa_cons (pe_ix (r := rIxL K) ix_list (pv 1) pe_int (fun _ _ => rfl)) pa_nil))))))
        (pss_one (ps_if (pt_cmpR op_eq (pv 0) pe_int (nomark _))
          (pss_one (ps_expr (pe_call (ok_lies_on T TB) (hr.mono (by omega)) rfl T.m_lies_on T.F_lies_on.kp T.b_lies_on .nil (passes_call (takes_of rfl rfl rfl rfl) (fun _ _ _ _ h => h)) (pa_cons (pe_ix (r := rIxL K) ix_list (pv 1) pe_int (fun _ _ => rfl)) (pa_cons (pe_ix (r := rIxL K) ix_list (pv 1) pe_int (fun _ _ => rfl)) pa_nil)))))
          (pss_one (ps_if (pt_cmpR op_eq (pv 0) pe_int (nomark _))
            (pss_one (ps_expr (pe_call (ok_foot_of T TB) (hr.mono (by omega)) rfl T.m_foot_of T.F_foot_of.kp T.b_foot_of .nil (passes_call (takes_of rfl rfl rfl rfl) (fun _ _ _ _ h => h)) (pa_cons (pe_ix (r := rIxL K) ix_list (pv 1) pe_int (fun _ _ => rfl)) (pa_cons (pe_ix (r := rIxL K) ix_list (pv 1) pe_int (fun _ _ => rfl)) pa_nil)))))
            (pss_one (ps_if (pt_cmpR op_eq (pv 0) pe_int (nomark _))
              (pss_one (ps_expr (pe_call (ok_gap_of T TB) (hr.mono (by omega)) rfl T.m_gap_of T.F_gap_of.kp T.b_gap_of .nil (passes_call (takes_of rfl rfl rfl rfl) (fun _ _ _ _ h => h)) (pa_cons (pe_ix (r := rIxL K) ix_list (pv 1) pe_int (fun _ _ => rfl)) (pa_cons (pe_ix (r := rIxL K) ix_list (pv 1) pe_int (fun _ _ => rfl)) pa_nil)))))
              (pss_one (ps_expr (pe_call (ok_nearest_edge T TB) (hr.mono (by omega)) rfl T.m_nearest_edge T.F_nearest_edge.kp T.b_nearest_edge .nil (passes_call (takes_of rfl rfl rfl rfl) (fun _ _ _ _ h => h)) (pa_cons (pe_ix (r := rIxL K) ix_list (pv 1) pe_int (fun _ _ => rfl)) (pa_cons (pe_ix (r := rIxL K) ix_list (pv 1) pe_int (fun _ _ => rfl)) pa_nil))))))))))))), ?_⟩
    have kN : ∀ n : Str, e = n → n ≠ "" → ∀ H', Same H H' → Rz T.C_BadValue (.str n) H' E := fun n q z H' s => by subst q; exact kE z H' s
    have kG : e = "" → ∀ (v : V) H', Same H H' → Q .non H' := fun q v H' s => k q H' s
    match w, hw, hf with
    | 0, hw, hf =>
      obtain ⟨x, y, z, b, c, d, rfl, h1, h2, h3, he⟩ := hf
      exact ⟨_, rfl, rfl, _, rfl, (if_pos (by decide)).mpr ⟨_, rfl, _, _, _, _, rfl, rfl, hrow, at0, _, rfl, _, _, _, _, rfl, rfl, hrow, at1, _, rfl, _, _, _, _, rfl, rfl, hrow, at2, x, y, z, b, c, d, rfl, h1, h2, h3, fun q => kN "a" (by rw [he, q]; rfl) (by decide), fun p q => kN "b" (by rw [he, p, q]; rfl) (by decide), fun p q r => kN "c" (by rw [he, p, q, r]; rfl) (by decide), fun p q r => kG (by rw [he, p, q, r]; rfl)⟩⟩
    | 1, hw, hf =>
      obtain ⟨x, y, b, c, rfl, h1, h2, he⟩ := hf
      exact ⟨_, rfl, rfl, _, rfl, (if_neg (by decide)).mpr ⟨_, rfl, rfl, _, rfl, (if_pos (by decide)).mpr ⟨_, rfl, _, _, _, _, rfl, rfl, hrow, at0, _, rfl, _, _, _, _, rfl, rfl, hrow, at1, x, y, b, c, rfl, h1, h2, tb, fun q => kN "p" (by rw [he, q]; rfl) (by decide), fun p q => kN "segment" (by rw [he, p, q]; rfl) (by decide), fun p q => kG (by rw [he, p, q]; rfl)⟩⟩⟩
    | 2, hw, hf =>
      obtain ⟨x, y, b, c, rfl, h1, h2, he⟩ := hf
      exact ⟨_, rfl, rfl, _, rfl, (if_neg (by decide)).mpr ⟨_, rfl, rfl, _, rfl, (if_neg (by decide)).mpr ⟨_, rfl, rfl, _, rfl, (if_pos (by decide)).mpr ⟨_, rfl, _, _, _, _, rfl, rfl, hrow, at0, _, rfl, _, _, _, _, rfl, rfl, hrow, at1, x, y, b, c, rfl, h1, h2, tb, fun q => kN "p" (by rw [he, q]; rfl) (by decide), fun p q => kN "segment" (by rw [he, p, q]; rfl) (by decide), fun p q => kG (by rw [he, p, q]; rfl)⟩⟩⟩⟩
    | 3, hw, hf =>
      obtain ⟨x, y, b, c, rfl, h1, h2, he⟩ := hf
      exact ⟨_, rfl, rfl, _, rfl, (if_neg (by decide)).mpr ⟨_, rfl, rfl, _, rfl, (if_neg (by decide)).mpr ⟨_, rfl, rfl, _, rfl, (if_neg (by decide)).mpr ⟨_, rfl, rfl, _, rfl, (if_pos (by decide)).mpr ⟨_, rfl, _, _, _, _, rfl, rfl, hrow, at0, _, rfl, _, _, _, _, rfl, rfl, hrow, at1, x, y, b, c, rfl, h1, h2, tb, fun q => kN "p" (by rw [he, q]; rfl) (by decide), fun p q => kN "segment" (by rw [he, p, q]; rfl) (by decide), fun p q => kG (by rw [he, p, q]; rfl)⟩⟩⟩⟩⟩
    | 4, hw, hf =>
      obtain ⟨x, y, b, c, rfl, h1, h2, he⟩ := hf
      exact ⟨_, rfl, rfl, _, rfl, (if_neg (by decide)).mpr ⟨_, rfl, rfl, _, rfl, (if_neg (by decide)).mpr ⟨_, rfl, rfl, _, rfl, (if_neg (by decide)).mpr ⟨_, rfl, rfl, _, rfl, (if_neg (by decide)).mpr ⟨_, rfl, _, _, _, _, rfl, rfl, hrow, at0, _, rfl, _, _, _, _, rfl, rfl, hrow, at1, x, y, b, c, rfl, h1, h2, tb, fun q => kN "p" (by rw [he, q]; rfl) (by decide), fun p q => kN "line" (by rw [he, p, q]; rfl) (by decide), fun p q => kG (by rw [he, p, q]; rfl)⟩⟩⟩⟩⟩
theorem ok__law_rings (T : Txt K mg) (TB : TxtB T base w) : FnOk P w K mg base (L2.CX P w) 15 T.a__law_rings T.d__law_rings ["which", "row"] (fun vs H Q E => ∃ (w : Nat) (r : Addr) (ws : List V) (e : Str), vs = [.int (w : Int), .ref r] ∧ (5 ≤ w ∧ w ≤ 10) ∧ SqL K H r ws ∧ RowF K H w ws e ∧ Tbs T.ts H ∧ (e = "" → ∀ H', Same H H' → Q .non H') ∧ (e ≠ "" → ∀ H', Same H H' → Rz T.C_BadValue (.str e) H' E)) := by
  refine T.F__law_rings.okX sc__law_rings (fun vs H Q E h => ?_) (fun cdv A outer s H vs Q E hr h => ?_)
  · obtain ⟨w, r, ws, e, rfl, hw, hrow, hf, tb, k, kE⟩ := h
    rfl
  · obtain ⟨w, r, ws, e, rfl, hw, hrow, hf, tb, k, kE⟩ := h
    refine ⟨_, (pss_one (ps_if (pt_cmpR op_eq (pv 0) pe_int (nomark _))
        (pss_one (ps_expr (pe_call (ok_meeting T TB) (hr.mono (by omega)) rfl T.m_meeting T.F_meeting.kp T.b_meeting .nil (passes_call (takes_of rfl rfl rfl rfl) (fun _ _ _ _ h => h)) (pa_cons (pe_ix (r := rIxL K) ix_list (pv 1) pe_int (fun _ _ => rfl)) (pa_cons (pe_ix (r := rIxL K) ix_list (pv 1) pe_int (fun _ _ => rfl)) pa_nil)))))
        (pss_one (ps_if (pt_cmpR op_eq (pv 0) pe_int (nomark _))
          (pss_one (ps_expr (pe_call (ok_ring_of T TB) (hr.mono (by omega)) rfl T.m_ring_of T.F_ring_of.kp T.b_ring_of .nil (passes_call (takes_of rfl rfl rfl rfl) (fun _ _ _ _ h => h)) (pa_cons (pe_ix (r := rIxL K) ix_list (pv 1) pe_int (fun _ _ => rfl)) pa_nil))))
          (pss_one (ps_if (pt_cmpR op_eq (pv 0) pe_int (nomark _))
            (pss_one (ps_expr (pe_call (ok_size_of T TB) (hr.mono (by omega)) rfl T.m_size_of T.F_size_of.kp T.b_size_of .nil (passes_call (takes_of rfl rfl rfl rfl) (fun _ _ _ _ h => h)) (pa_cons (pe_ix (r := rIxL K) ix_list (pv 1) pe_int (fun _ _ => rfl)) pa_nil))))
            (pss_one (ps_if (pt_cmpR op_eq (pv 0) pe_int (nomark _))
              (pss_one (ps_expr (pe_call (ok_place_in T TB) (hr.mono (by omega)) rfl T.m_place_in T.F_place_in.kp T.b_place_in .nil (passes_call (takes_of rfl rfl rfl rfl) (fun _ _ _ _ h => h)) (pa_cons (pe_ix (r := rIxL K) ix_list (pv 1) pe_int (fun _ _ => rfl)) (pa_cons (pe_ix (r := rIxL K) ix_list (pv 1) pe_int (fun _ _ => rfl)) pa_nil)))))
              (pss_one (ps_if (pt_cmpR op_eq (pv 0) pe_int (nomark _))
                (pss_one (ps_expr (pe_call (ok_hull_of T TB) (hr.mono (by omega)) rfl T.m_hull_of T.F_hull_of.kp T.b_hull_of .nil (passes_call (takes_of rfl rfl rfl rfl) (fun _ _ _ _ h => h)) (pa_cons (pe_ix (r := rIxL K) ix_list (pv 1) pe_int (fun _ _ => rfl)) pa_nil))))
                (pss_one (ps_expr (pe_call (ok_is_hull T TB) (hr.mono (by omega)) rfl T.m_is_hull T.F_is_hull.kp T.b_is_hull .nil (passes_call (takes_of rfl rfl rfl rfl) (fun _ _ _ _ h => h)) (pa_cons (pe_ix (r := rIxL K) ix_list (pv 1) pe_int (fun _ _ => rfl)) (pa_cons pe_non pa_nil))))))))))))))), ?_⟩
    have kN : ∀ n : Str, e = n → n ≠ "" → ∀ H', Same H H' → Rz T.C_BadValue (.str n) H' E := fun n q z H' s => by subst q; exact kE z H' s
    have kG : e = "" → ∀ (v : V) H', Same H H' → Q .non H' := fun q v H' s => k q H' s
    rcases (show w = 5 ∨ w = 6 ∨ w = 7 ∨ w = 8 ∨ w = 9 ∨ w = 10 by omega) with rfl | rfl | rfl | rfl | rfl | rfl
    · obtain ⟨x, y, b, c, rfl, h1, h2, he⟩ : R2 (SgV K) (SgV K) "first" "second" H ws e := hf
      exact ⟨_, rfl, rfl, _, rfl, (if_pos (by decide)).mpr ⟨_, rfl, _, _, _, _, rfl, rfl, hrow, at0, _, rfl, _, _, _, _, rfl, rfl, hrow, at1, x, y, b, c, rfl, h1, h2, tb, fun q => kN "first" (by rw [he, q]; rfl) (by decide), fun p q => kN "second" (by rw [he, p, q]; rfl) (by decide), fun p q => kG (by rw [he, p, q]; rfl)⟩⟩
    · obtain ⟨x, b, rfl, h1, he⟩ : R1 (GaV K) "points" H ws e := hf
      exact ⟨_, rfl, rfl, _, rfl, (if_neg (by decide)).mpr ⟨_, rfl, rfl, _, rfl, (if_pos (by decide)).mpr ⟨_, rfl, _, _, _, _, rfl, rfl, hrow, at0, x, b, rfl, h1, tb, fun q => kN "points" (by rw [he, q]; rfl) (by decide), fun q => kG (by rw [he, q]; rfl)⟩⟩⟩
    · obtain ⟨x, b, rfl, h1, he⟩ : R1 (AV K 3 40) "points" H ws e := hf
      exact ⟨_, rfl, rfl, _, rfl, (if_neg (by decide)).mpr ⟨_, rfl, rfl, _, rfl, (if_neg (by decide)).mpr ⟨_, rfl, rfl, _, rfl, (if_pos (by decide)).mpr ⟨_, rfl, _, _, _, _, rfl, rfl, hrow, at0, x, b, rfl, h1, tb, fun q => kN "points" (by rw [he, q]; rfl) (by decide), fun q => kG (by rw [he, q]; rfl)⟩⟩⟩⟩
    · obtain ⟨x, y, b, c, rfl, h1, h2, he⟩ : R2 (PV K) (RgV K) "p" "ring" H ws e := hf
      exact ⟨_, rfl, rfl, _, rfl, (if_neg (by decide)).mpr ⟨_, rfl, rfl, _, rfl, (if_neg (by decide)).mpr ⟨_, rfl, rfl, _, rfl, (if_neg (by decide)).mpr ⟨_, rfl, rfl, _, rfl, (if_pos (by decide)).mpr ⟨_, rfl, _, _, _, _, rfl, rfl, hrow, at0, _, rfl, _, _, _, _, rfl, rfl, hrow, at1, x, y, b, c, rfl, h1, h2, tb, fun q => kN "p" (by rw [he, q]; rfl) (by decide), fun p q => kN "ring" (by rw [he, p, q]; rfl) (by decide), fun p q => kG (by rw [he, p, q]; rfl)⟩⟩⟩⟩⟩
    · obtain ⟨x, b, rfl, h1, he⟩ : R1 (AV K 1 60) "points" H ws e := hf
      exact ⟨_, rfl, rfl, _, rfl, (if_neg (by decide)).mpr ⟨_, rfl, rfl, _, rfl, (if_neg (by decide)).mpr ⟨_, rfl, rfl, _, rfl, (if_neg (by decide)).mpr ⟨_, rfl, rfl, _, rfl, (if_neg (by decide)).mpr ⟨_, rfl, rfl, _, rfl, (if_pos (by decide)).mpr ⟨_, rfl, _, _, _, _, rfl, rfl, hrow, at0, x, b, rfl, h1, tb, fun q => kN "points" (by rw [he, q]; rfl) (by decide), fun q => kG (by rw [he, q]; rfl)⟩⟩⟩⟩⟩⟩
    · obtain ⟨x, b, rfl, h1, he⟩ : R1 (AV K 1 60) "points" H ws e := hf
      exact ⟨_, rfl, rfl, _, rfl, (if_neg (by decide)).mpr ⟨_, rfl, rfl, _, rfl, (if_neg (by decide)).mpr ⟨_, rfl, rfl, _, rfl, (if_neg (by decide)).mpr ⟨_, rfl, rfl, _, rfl, (if_neg (by decide)).mpr ⟨_, rfl, rfl, _, rfl, (if_neg (by decide)).mpr ⟨_, rfl, _, _, _, _, rfl, rfl, hrow, at0, x, b, rfl, h1, tb, fun q => kN "points" (by rw [he, q]; rfl) (by decide), fun q => kG (by rw [he, q]; rfl)⟩⟩⟩⟩⟩⟩
theorem ok__law_told (T : Txt K mg) (TB : TxtB T base w) : FnOk P w K mg base CX0 16 T.a__law_told T.d__law_told ["which", "row"] (fun vs H Q _ => ∃ (w : Nat) (r : Addr) (ws : List V) (e : Str), vs = [.int (w : Int), .ref r] ∧ w ≤ 10 ∧ SqL K H r ws ∧ RowF K H w ws e ∧ Tbs T.ts H ∧ ∀ H', Same H H' → Q (.str e) H') := by
  refine T.F__law_told.ok sc__law_told (fun vs H Q E h => ?_) (fun cdv A outer s H vs Q E hr h => ?_)
  · obtain ⟨w, r, ws, e, rfl, hw, hrow, hf, tb, k⟩ := h
    rfl
  · obtain ⟨w, r, ws, e, rfl, hw, hrow, hf, tb, k⟩ := h
    refine ⟨_, (pss_cons (ps_try_as (i := 2) (Wout := fun _ _ _ _ => False) rfl rfl sc__law_told.nd rfl rfl ⟨rfl, by decide, Or.inl T.bv.gC⟩ takes0
        (fun W pn xe tk _ => (pss_one (ps_if (pt_cmpR op_lt (pv 0) pe_int (nomark _))
          (pss_one (ps_expr (pe_callS (ok__law_sides T TB) (hr.mono (by omega)) rfl T.m__law_sides T.F__law_sides.kp T.b__law_sides (fun σ => passAt tk σ) (by exact (pa_cons (pv 0) (pa_cons (pv 1) pa_nil))))))
          (pss_one (ps_expr (pe_callS (ok__law_rings T TB) (hr.mono (by omega)) rfl T.m__law_rings T.F__law_rings.kp T.b__law_rings (fun σ => passAt tk σ) (by exact (pa_cons (pv 0) (pa_cons (pv 1) pa_nil)))))))))
        (fun a oe cls d pn hz hf => (pss_one (ps_ret (pe_byBv T.bv hz hf (pv 2))))))
      (pss_one (ps_ret pe_str))), ?_⟩
    refine ⟨_, rfl, _, _, rfl, rfl, _, rfl, ifD (fun c => ?_) (fun c => ?_)⟩
    · refine ⟨_, rfl, _, rfl, w, r, ws, e, rfl, by omega, hrow, hf, tb, fun q H' s => by have h := k H' s; rw [q] at h; exact h, fun q H' s d hd => ?_⟩
      refine ⟨true, T.bv.te, fun _ a0 _ => ?_, fun q => Bool.noConfusion q⟩
      refine ⟨_, rfl, rfl, rfl, d, _, rfl, upd_same, ?_⟩
      exact k _ (s.trans (same_new hd))
    · refine ⟨_, rfl, _, rfl, w, r, ws, e, rfl, by omega, hrow, hf, tb, fun q H' s => by have h := k H' s; rw [q] at h; exact h, fun q H' s d hd => ?_⟩
      refine ⟨true, T.bv.te, fun _ a0 _ => ?_, fun q => Bool.noConfusion q⟩
      refine ⟨_, rfl, rfl, rfl, d, _, rfl, upd_same, ?_⟩
      exact k _ (s.trans (same_new hd))
theorem ok_law (T : Txt K mg) (TB : TxtB T base w) : FnOk P w K mg base CX0 17 T.a_law T.d_law ["script"] (spLawT K T.ts) := by
  refine T.F_law.ok sc_law (fun vs H Q E h => ?_) (fun cdv A outer s H vs Q E hr h => ?_)
  · obtain ⟨w0, ns, rfl, hS, hlen, tb, k⟩ := h
    rfl
  · obtain ⟨w0, ns, rfl, hS, hlen, tb, k⟩ := h
    refine ⟨_, (pss_cons (ps_set (i := 1) sc_law.nd rfl (Or.inl rfl) (pe_call (ok__law_stream T TB) (hr.mono (by omega)) rfl T.m__law_stream T.F__law_stream.kp T.b__law_stream .nil pass0 (pa_cons (pv 0) pa_nil)))
      (pss_cons (ps_set (i := 2) sc_law.nd rfl (Or.inr rfl) (pe_tup (pa_cons (pe_un un_neg pe_int) (pa_cons pe_int pa_nil))))
      (pss_cons (ps_set (i := 3) sc_law.nd rfl (Or.inr rfl) (pe_tup (pa_cons (pe_tup (pa_cons (pe_un un_neg pe_int) (pa_cons pe_int pa_nil))) (pa_cons (pe_tup (pa_cons pe_int (pa_cons (pe_un un_neg pe_int) pa_nil))) pa_nil))))
      (pss_cons (ps_set (i := 4) sc_law.nd rfl (Or.inl rfl) (pe_tup (pa_cons (pe_tup (pa_cons pe_int (pa_cons pe_int pa_nil))) (pa_cons (pe_tup (pa_cons pe_int (pa_cons pe_int pa_nil))) (pa_cons (pe_tup (pa_cons pe_int (pa_cons pe_int pa_nil))) (pa_cons (pe_tup (pa_cons pe_int (pa_cons pe_int pa_nil))) pa_nil))))))
      (pss_cons (ps_set (i := 5) sc_law.nd rfl (Or.inr rfl) (pe_ix (r := rIxL K) ix_list (pe_lst (pa_cons (pe_tup (pa_cons pe_int (pa_cons pe_int pa_nil))) (pa_cons (pe_lst (pa_cons pe_int (pa_cons pe_int pa_nil))) (pa_cons pe_non (pa_cons (pe_tup (pa_cons pe_int pa_nil)) (pa_cons (pe_tup (pa_cons pe_bl (pa_cons pe_int pa_nil))) (pa_cons (pe_tup (pa_cons pe_int (pa_cons pe_str pa_nil))) pa_nil))))))) (pe_call (ok__law_next T TB) (hr.mono (by omega)) rfl T.m__law_next T.F__law_next.kp T.b__law_next .nil pass0 (pa_cons (pv 1) (pa_cons pe_int pa_nil))) (fun _ _ => rfl)))
      (pss_cons (ps_set (i := 6) sc_law.nd rfl (Or.inr rfl) (pe_ix (r := rIxL K) ix_list (pe_lst (pa_cons (pe_rev2 (pv 3)) (pa_cons (pe_tup (pa_cons (pv 2) (pa_cons (pv 2) pa_nil))) (pa_cons (pe_callTy call_list_of (by rfl) T.n_list (by decide +kernel) (pa_cons (pv 3) pa_nil)) (pa_cons pe_non (pa_cons (pe_tup (pa_cons (pv 2) (pa_cons (pv 5) pa_nil))) pa_nil)))))) (pe_call (ok__law_next T TB) (hr.mono (by omega)) rfl T.m__law_next T.F__law_next.kp T.b__law_next .nil pass0 (pa_cons (pv 1) (pa_cons pe_int pa_nil))) (fun _ _ => rfl)))
      (pss_cons (ps_set (i := 7) sc_law.nd rfl (Or.inl rfl) (pe_ix (r := rIxL K) ix_list (pe_lst (pa_cons (pe_tup (pa_cons (pv 2) pa_nil)) (pa_cons (pe_tup (pa_cons (pv 2) (pa_cons (pv 2) pa_nil))) (pa_cons (pe_callTy call_list_of (by rfl) T.n_list (by decide +kernel) (pa_cons (pv 3) pa_nil)) (pa_cons pe_non (pa_cons (pe_op op_catA (pv 3) (pe_tup (pa_cons (pv 5) pa_nil))) (pa_cons (pe_op op_repT (pe_tup (pa_cons (pv 2) (pa_cons (pe_tup (pa_cons pe_int (pa_cons pe_int pa_nil))) pa_nil))) pe_int) pa_nil))))))) (pe_call (ok__law_next T TB) (hr.mono (by omega)) rfl T.m__law_next T.F__law_next.kp T.b__law_next .nil pass0 (pa_cons (pv 1) (pa_cons pe_int pa_nil))) (fun _ _ => rfl)))
      (pss_cons (ps_set (i := 8) sc_law.nd rfl (Or.inl rfl) (pe_ix (r := rIxL K) ix_list (pe_lst (pa_cons (pe_revTN (pv 4)) (pa_cons (pe_op op_catA (pe_slice sl_tupA (pv 4) (po_some pe_int) po_none) (pe_slice sl_tupA (pv 4) po_none (po_some pe_int))) (pa_cons (pe_slice sl_tupA (pv 4) po_none (po_some pe_int)) (pa_cons (pe_callTy call_list_of (by rfl) T.n_list (by decide +kernel) (pa_cons (pv 4) pa_nil)) (pa_cons pe_non (pa_cons (pe_tup (pa_cons (pe_tup (pa_cons pe_int (pa_cons pe_int pa_nil))) (pa_cons (pe_tup (pa_cons pe_int (pa_cons pe_int pa_nil))) (pa_cons (pe_tup (pa_cons pe_int (pa_cons pe_int pa_nil))) (pa_cons (pe_tup (pa_cons pe_int (pa_cons pe_int pa_nil))) pa_nil))))) pa_nil))))))) (pe_call (ok__law_next T TB) (hr.mono (by omega)) rfl T.m__law_next T.F__law_next.kp T.b__law_next .nil pass0 (pa_cons (pv 1) (pa_cons pe_int pa_nil))) (fun _ _ => rfl)))
      (pss_cons (ps_set (i := 9) sc_law.nd rfl (Or.inl rfl) (pe_ix (r := rIxL K) ix_list (pe_lst (pa_cons (pe_slice sl_tupA (pv 4) po_none (po_some pe_int)) (pa_cons (pe_callTy call_list_of (by rfl) T.n_list (by decide +kernel) (pa_cons (pv 4) pa_nil)) (pa_cons pe_non (pa_cons (pe_op op_catA (pv 4) (pe_tup (pa_cons (pv 5) pa_nil))) (pa_cons (pe_op op_repT (pe_tup (pa_cons (pe_tup (pa_cons pe_int (pa_cons pe_int pa_nil))) pa_nil)) pe_int) pa_nil)))))) (pe_call (ok__law_next T TB) (hr.mono (by omega)) rfl T.m__law_next T.F__law_next.kp T.b__law_next .nil pass0 (pa_cons (pv 1) (pa_cons pe_int pa_nil))) (fun _ _ => rfl)))
      (pss_cons (ps_set (i := 10) sc_law.nd rfl (Or.inl rfl) (pe_ix (r := rIxL K) ix_list (pe_lst (pa_cons (pv 9) (pa_cons (pe_tup (pa_cons (pe_tup (pa_cons pe_int (pa_cons pe_int pa_nil))) (pa_cons (pe_tup (pa_cons pe_int (pa_cons pe_int pa_nil))) (pa_cons (pe_tup (pa_cons pe_int (pa_cons pe_int pa_nil))) (pa_cons (pe_tup (pa_cons pe_int (pa_cons pe_int pa_nil))) pa_nil))))) (pa_cons (pe_tup (pa_cons (pv 2) (pa_cons (pv 2) (pa_cons (pe_tup (pa_cons pe_int (pa_cons pe_int pa_nil))) pa_nil)))) (pa_cons (pe_tup (pa_cons (pe_tup (pa_cons pe_int (pa_cons pe_int pa_nil))) (pa_cons (pe_tup (pa_cons pe_int (pa_cons pe_int pa_nil))) (pa_cons (pe_tup (pa_cons pe_int (pa_cons pe_int pa_nil))) pa_nil)))) pa_nil))))) (pe_call (ok__law_next T TB) (hr.mono (by omega)) rfl T.m__law_next T.F__law_next.kp T.b__law_next .nil pass0 (pa_cons (pv 1) (pa_cons pe_int pa_nil))) (fun _ _ => rfl)))
      (pss_cons (ps_set (i := 11) sc_law.nd rfl (Or.inr rfl) (pe_ix (r := rIxL K) ix_list (pe_lst (pa_cons (pe_tup pa_nil) (pa_cons (pe_op op_repT (pe_tup (pa_cons (pe_tup (pa_cons pe_int (pa_cons pe_int pa_nil))) pa_nil)) pe_int) (pa_cons (pe_callTy call_list_of (by rfl) T.n_list (by decide +kernel) (pa_cons (pv 4) pa_nil)) (pa_cons pe_non (pa_cons (pe_tup (pa_cons (pv 5) pa_nil)) pa_nil)))))) (pe_call (ok__law_next T TB) (hr.mono (by omega)) rfl T.m__law_next T.F__law_next.kp T.b__law_next .nil pass0 (pa_cons (pv 1) (pa_cons pe_int pa_nil))) (fun _ _ => rfl)))
      (pss_cons (ps_set (i := 12) sc_law.nd rfl (Or.inl rfl) (pe_lst (pa_cons (pe_lst (pa_cons (pe_lst (pa_cons pe_str (pa_cons pe_str (pa_cons pe_str pa_nil)))) (pa_cons (pe_lst (pa_cons (pv 2) (pa_cons (pv 2) (pa_cons (pe_tup (pa_cons pe_int (pa_cons pe_int pa_nil))) pa_nil)))) (pa_cons (pe_lst (pa_cons (pv 5) (pa_cons (pv 5) (pa_cons (pv 5) pa_nil)))) pa_nil)))) pa_nil)))
      (pss_cons (ps_set (i := 12) sc_law.nd rfl (Or.inl rfl) (pe_op op_cat (pv 12) (pe_lc (own := [("k", 18)]) (g := gName 18) (tt := tYes) rfl sc_law.nd (pi_range1 rfl T.n_range (pa_cons pe_int pa_nil)) (blkOk_by (own := [("k", 18)]) (N := N_law) (sc := defScope s_law) (by decide +kernel)) (fun _ _ _ _ _ => pg_name (i := 18) sc_law.nd rfl (Or.inl rfl)) (fun _ _ _ _ _ => pts_nil) (fun _ _ _ _ _ => (pe_lst (pa_cons (pe_lst (pa_cons pe_str (pa_cons pe_str pa_nil))) (pa_cons (pe_lst (pa_cons (pv 2) (pa_cons (pv 3) pa_nil))) (pa_cons (pe_lst (pa_cons (pv 5) (pa_cons (pv 6) pa_nil))) pa_nil))))))))
      (pss_cons (ps_expr (pe_bm PySem.F.plainAttrs_list PySem.F.slot_list_append PySem.F.type_list_append mt_append (pv 12) (pa_cons (pe_lst (pa_cons (pe_lst (pa_cons pe_str (pa_cons pe_str pa_nil))) (pa_cons (pe_lst (pa_cons (pv 2) (pa_cons (pe_op op_repT (pe_tup (pa_cons (pv 2) (pa_cons (pe_tup (pa_cons pe_int (pa_cons pe_int pa_nil))) pa_nil))) pe_int) pa_nil))) (pa_cons (pe_lst (pa_cons (pv 5) (pa_cons (pv 7) pa_nil))) pa_nil)))) pa_nil)))
      (pss_cons (ps_expr (pe_bm PySem.F.plainAttrs_list PySem.F.slot_list_append PySem.F.type_list_append mt_append (pv 12) (pa_cons (pe_lst (pa_cons (pe_lst (pa_cons pe_str (pa_cons pe_str pa_nil))) (pa_cons (pe_lst (pa_cons (pv 3) (pa_cons (pv 3) pa_nil))) (pa_cons (pe_lst (pa_cons (pv 6) (pa_cons (pv 6) pa_nil))) pa_nil)))) pa_nil)))
      (pss_cons (ps_expr (pe_bm PySem.F.plainAttrs_list PySem.F.slot_list_append PySem.F.type_list_append mt_append (pv 12) (pa_cons (pe_lst (pa_cons (pe_lst (pa_cons pe_str pa_nil)) (pa_cons (pe_lst (pa_cons (pe_revTN (pv 4)) pa_nil)) (pa_cons (pe_lst (pa_cons (pv 10) pa_nil)) pa_nil)))) pa_nil)))
      (pss_cons (ps_expr (pe_bm PySem.F.plainAttrs_list PySem.F.slot_list_append PySem.F.type_list_append mt_append (pv 12) (pa_cons (pe_lst (pa_cons (pe_lst (pa_cons pe_str pa_nil)) (pa_cons (pe_lst (pa_cons (pe_op op_repT (pe_tup (pa_cons (pe_tup (pa_cons pe_int (pa_cons pe_int pa_nil))) pa_nil)) pe_int) pa_nil)) (pa_cons (pe_lst (pa_cons (pv 9) pa_nil)) pa_nil)))) pa_nil)))
      (pss_cons (ps_expr (pe_bm PySem.F.plainAttrs_list PySem.F.slot_list_append PySem.F.type_list_append mt_append (pv 12) (pa_cons (pe_lst (pa_cons (pe_lst (pa_cons pe_str (pa_cons pe_str pa_nil))) (pa_cons (pe_lst (pa_cons (pv 2) (pa_cons (pv 4) pa_nil))) (pa_cons (pe_lst (pa_cons (pv 5) (pa_cons (pv 8) pa_nil))) pa_nil)))) pa_nil)))
      (pss_cons (ps_set (i := 12) sc_law.nd rfl (Or.inl rfl) (pe_op op_cat (pv 12) (pe_lc (own := [("k", 18)]) (g := gName 18) (tt := tYes) rfl sc_law.nd (pi_range1 rfl T.n_range (pa_cons pe_int pa_nil)) (blkOk_by (own := [("k", 18)]) (N := N_law) (sc := defScope s_law) (by decide +kernel)) (fun _ _ _ _ _ => pg_name (i := 18) sc_law.nd rfl (Or.inl rfl)) (fun _ _ _ _ _ => pts_nil) (fun _ _ _ _ _ => (pe_lst (pa_cons (pe_lst (pa_cons pe_str pa_nil)) (pa_cons (pe_lst (pa_cons (pe_op (op_repTK (K := K) rfl) (pe_tup (pa_cons (pe_tup (pa_cons pe_int (pa_cons pe_int pa_nil))) pa_nil)) pe_int) pa_nil)) (pa_cons (pe_lst (pa_cons (pv 11) pa_nil)) pa_nil))))))))
      (pss_cons (ps_set (i := 13) sc_law.nd rfl (Or.inl rfl) (pe_call (ok__law_next T TB) (hr.mono (by omega)) rfl T.m__law_next T.F__law_next.kp T.b__law_next .nil pass0 (pa_cons (pv 1) (pa_cons pe_int pa_nil))))
      (pss_cons (ps_asg (pe_ix (r := rIxL K) ix_list (pv 12) (pv 13) (fun _ _ => rfl)) (pg_lst (by rfl) (pgs_cons (pg_name (i := 14) sc_law.nd rfl (Or.inl rfl)) (pgs_cons (pg_name (i := 15) sc_law.nd rfl (Or.inl rfl)) (pgs_cons (pg_name (i := 16) sc_law.nd rfl (Or.inl rfl)) pgs_nil)))))
      (pss_cons (ps_if (pt_cmpR op_ne (pe_call (ok__law_told T TB) (hr.mono (by omega)) rfl T.m__law_told T.F__law_told.kp T.b__law_told .nil pass0 (pa_cons (pv 13) (pa_cons (pv 15) pa_nil))) pe_str (nomark _))
        (pss_one (ps_ret pe_bl))
        pss_nil)
      (pss_cons (ps_for PassesOwn.never rfl (pi_range1 rfl T.n_range (pa_cons (pe_callB call_len (by rfl) T.n_len (by decide +kernel) (pa_cons (pv 14) pa_nil)) pa_nil)) (pg_name (i := 17) sc_law.nd rfl (Or.inl rfl))
        (pss_one (ps_if (pt_cmpR op_ne (pe_call (ok__law_told T TB) (hr.mono (by omega)) rfl T.m__law_told T.F__law_told.kp T.b__law_told .nil pass0 (pa_cons (pv 13) (pa_cons (pe_op op_cat (pe_slice sl_list (pv 15) po_none (po_some (pv 17))) (pe_slice sl_list (pv 16) (po_some (pv 17)) po_none)) pa_nil))) (pe_ix (r := rIxL K) ix_list (pv 14) (pv 17) (fun _ _ => rfl)) (nomark _))
          (pss_one (ps_ret pe_bl))
          pss_nil)))
      (pss_one (ps_ret pe_bl))))))))))))))))))))))))), ?_⟩
    have fin := k
    refine ⟨_, rfl, _, ns, rfl, hS, fun H1 s b e1 n1 S1 => ?_⟩
    have tb := tb.same e1
    have S := S1
    clear S1
    refine ⟨_, rfl, small rfl, fun g1 w1 => ?_⟩
    obtain ⟨K1, q1, e1, N1⟩ : ∃ H', H' = upd H1 g1 (HO.tup [.int (-1000), .int (1000)]) ∧ Same H1 H' ∧ H' g1 = some (HO.tup [.int (-1000), .int (1000)]) := ⟨_, rfl, same_new w1, upd_same⟩
    have z1 := S.new1 w1
    rw [← q1]
    replace S := S.same e1
    replace tb := tb.same e1
    have tp := Sta.tup (K := K) (M := []) S (fun D h => by cases h) (SqT.of N1)
    clear q1 w1 N1 z1 e1
    refine ⟨_, rfl, small rfl, fun g2 w2 => ?_⟩
    obtain ⟨K2, q2, e2, N2⟩ : ∃ H', H' = upd K1 g2 (HO.tup [.int (-1000), .int (1000)]) ∧ Same K1 H' ∧ H' g2 = some (HO.tup [.int (-1000), .int (1000)]) := ⟨_, rfl, same_new w2, upd_same⟩
    have z2 := S.new1 w2
    rw [← q2]
    replace S := S.same e2
    replace tb := tb.same e2
    replace tp := tp.same e2
    have ts1 := Sta.tup (K := K) (M := []) S (fun D h => by cases h) (SqT.of N2)
    clear q2 w2 N2 z2 e2
    refine ⟨_, rfl, small rfl, fun g3 w3 => ?_⟩
    obtain ⟨K3, q3, e3, N3⟩ : ∃ H', H' = upd K2 g3 (HO.tup [.int (1000), .int (-1000)]) ∧ Same K2 H' ∧ H' g3 = some (HO.tup [.int (1000), .int (-1000)]) := ⟨_, rfl, same_new w3, upd_same⟩
    have z3 := S.new1 w3
    rw [← q3]
    replace S := S.same e3
    replace tb := tb.same e3
    replace tp := tp.same e3
    replace ts1 := ts1.same e3
    have ts2 := Sta.tup (K := K) (M := []) S (fun D h => by cases h) (SqT.of N3)
    clear q3 w3 N3 z3 e3
    refine ⟨small rfl, fun g4 w4 => ?_⟩
    obtain ⟨K4, q4, e4, N4⟩ : ∃ H', H' = upd K3 g4 (HO.tup [.ref g2, .ref g3]) ∧ Same K3 H' ∧ H' g4 = some (HO.tup [.ref g2, .ref g3]) := ⟨_, rfl, same_new w4, upd_same⟩
    have z4 := S.new1 w4
    rw [← q4]
    replace S := S.same e4
    replace tb := tb.same e4
    replace tp := tp.same e4
    replace ts1 := ts1.same e4
    replace ts2 := ts2.same e4
    have ts := Sta.tup (K := K) (M := []) S (fun D h => by cases h) (SqT.of N4)
    clear q4 w4 N4 z4 e4
    refine ⟨small rfl, fun g5 w5 => ?_⟩
    obtain ⟨K5, q5, e5, N5⟩ : ∃ H', H' = upd K4 g5 (HO.tup [.int (0), .int (0)]) ∧ Same K4 H' ∧ H' g5 = some (HO.tup [.int (0), .int (0)]) := ⟨_, rfl, same_new w5, upd_same⟩
    have z5 := S.new1 w5
    rw [← q5]
    replace S := S.same e5
    replace tb := tb.same e5
    replace tp := tp.same e5
    replace ts1 := ts1.same e5
    replace ts2 := ts2.same e5
    replace ts := ts.same e5
    have tq0 := Sta.tup (K := K) (M := []) S (fun D h => by cases h) (SqT.of N5)
    clear q5 w5 N5 z5 e5
    refine ⟨small rfl, fun g6 w6 => ?_⟩
    obtain ⟨K6, q6, e6, N6⟩ : ∃ H', H' = upd K5 g6 (HO.tup [.int (4), .int (0)]) ∧ Same K5 H' ∧ H' g6 = some (HO.tup [.int (4), .int (0)]) := ⟨_, rfl, same_new w6, upd_same⟩
    have z6 := S.new1 w6
    rw [← q6]
    replace S := S.same e6
    replace tb := tb.same e6
    replace tp := tp.same e6
    replace ts1 := ts1.same e6
    replace ts2 := ts2.same e6
    replace ts := ts.same e6
    replace tq0 := tq0.same e6
    have tq1 := Sta.tup (K := K) (M := []) S (fun D h => by cases h) (SqT.of N6)
    clear q6 w6 N6 z6 e6
    refine ⟨small rfl, fun g7 w7 => ?_⟩
    obtain ⟨K7, q7, e7, N7⟩ : ∃ H', H' = upd K6 g7 (HO.tup [.int (4), .int (4)]) ∧ Same K6 H' ∧ H' g7 = some (HO.tup [.int (4), .int (4)]) := ⟨_, rfl, same_new w7, upd_same⟩
    have z7 := S.new1 w7
    rw [← q7]
    replace S := S.same e7
    replace tb := tb.same e7
    replace tp := tp.same e7
    replace ts1 := ts1.same e7
    replace ts2 := ts2.same e7
    replace ts := ts.same e7
    replace tq0 := tq0.same e7
    replace tq1 := tq1.same e7
    have tq2 := Sta.tup (K := K) (M := []) S (fun D h => by cases h) (SqT.of N7)
    clear q7 w7 N7 z7 e7
    refine ⟨small rfl, fun g8 w8 => ?_⟩
    obtain ⟨K8, q8, e8, N8⟩ : ∃ H', H' = upd K7 g8 (HO.tup [.int (0), .int (4)]) ∧ Same K7 H' ∧ H' g8 = some (HO.tup [.int (0), .int (4)]) := ⟨_, rfl, same_new w8, upd_same⟩
    have z8 := S.new1 w8
    rw [← q8]
    replace S := S.same e8
    replace tb := tb.same e8
    replace tp := tp.same e8
    replace ts1 := ts1.same e8
    replace ts2 := ts2.same e8
    replace ts := ts.same e8
    replace tq0 := tq0.same e8
    replace tq1 := tq1.same e8
    replace tq2 := tq2.same e8
    have tq3 := Sta.tup (K := K) (M := []) S (fun D h => by cases h) (SqT.of N8)
    clear q8 w8 N8 z8 e8
    refine ⟨small rfl, fun g9 w9 => ?_⟩
    obtain ⟨K9, q9, e9, N9⟩ : ∃ H', H' = upd K8 g9 (HO.tup [.ref g5, .ref g6, .ref g7, .ref g8]) ∧ Same K8 H' ∧ H' g9 = some (HO.tup [.ref g5, .ref g6, .ref g7, .ref g8]) := ⟨_, rfl, same_new w9, upd_same⟩
    have z9 := S.new1 w9
    rw [← q9]
    replace S := S.same e9
    replace tb := tb.same e9
    replace tp := tp.same e9
    replace ts1 := ts1.same e9
    replace ts2 := ts2.same e9
    replace ts := ts.same e9
    replace tq0 := tq0.same e9
    replace tq1 := tq1.same e9
    replace tq2 := tq2.same e9
    replace tq3 := tq3.same e9
    have tq := Sta.tup (K := K) (M := []) S (fun D h => by cases h) (SqT.of N9)
    clear q9 w9 N9 z9 e9
    have pp : Sta [] s K9 (fun H => PV K H (.ref g1) true) := tp.map fun H h => PV.pt h (show On (-1000) 1000 by unfold On; omega)
    have ss : Sta [] s K9 (fun H => SgV K H (.ref g4) true) := fun H' q => SgV.two (ts H' q) (ts1 H' q) (ts2 H' q) (show On (-1000) 1000 by unfold On; omega) (show On 1000 (-1000) by unfold On; omega) rfl
    have sq : Sta [] s K9 (fun H => LnAt K H g9 [(g5, 0, 0), (g6, 4, 0), (g7, 4, 4), (g8, 0, 4)]) := fun H' q => ⟨tq H' q, fun z hz => by
      simp only [List.mem_cons, List.not_mem_nil, or_false] at hz
      rcases hz with rfl | rfl | rfl | rfl
      · exact tq0 H' q
      · exact tq1 H' q
      · exact tq2 H' q
      · exact tq3 H' q, fun z hz => by
      simp only [List.mem_cons, List.not_mem_nil, or_false] at hz
      rcases hz with rfl | rfl | rfl | rfl <;> (unfold On; dsimp only; omega)⟩
    clear tq0 tq1 tq2 tq3
    refine ⟨small rfl, fun g10 w10 => ?_⟩
    obtain ⟨K10, q10, e10, N10⟩ : ∃ H', H' = upd K9 g10 (HO.tup [.int (1001), .int (0)]) ∧ Same K9 H' ∧ H' g10 = some (HO.tup [.int (1001), .int (0)]) := ⟨_, rfl, same_new w10, upd_same⟩
    have z10 := S.new1 w10
    rw [← q10]
    replace S := S.same e10
    replace tb := tb.same e10
    replace tp := tp.same e10
    replace ts1 := ts1.same e10
    replace ts2 := ts2.same e10
    replace ts := ts.same e10
    replace tq := tq.same e10
    replace pp := pp.same e10
    replace ss := ss.same e10
    replace sq := sq.same e10
    have b10 := Sta.tup (K := K) (M := []) S (fun D h => by cases h) (SqT.of N10)
    clear q10 w10 N10 z10 e10
    refine ⟨small rfl, fun g11 w11 => ?_⟩
    obtain ⟨K11, q11, e11, N11⟩ : ∃ H', H' = upd K10 g11 (HO.lst [.int (0), .int (0)]) ∧ Same K10 H' ∧ H' g11 = some (HO.lst [.int (0), .int (0)]) := ⟨_, rfl, same_new w11, upd_same⟩
    have z11 := S.new1 w11
    rw [← q11]
    replace S := S.same e11
    replace tb := tb.same e11
    replace tp := tp.same e11
    replace ts1 := ts1.same e11
    replace ts2 := ts2.same e11
    replace ts := ts.same e11
    replace tq := tq.same e11
    replace pp := pp.same e11
    replace ss := ss.same e11
    replace sq := sq.same e11
    replace b10 := b10.same e11
    have b11 : Sta [] s K11 (fun H => H g11 = some (HO.lst [.int (0), .int (0)])) := Sta.lst z11 (by simp) N11
    clear q11 w11 N11 z11 e11
    refine ⟨small rfl, fun g12 w12 => ?_⟩
    obtain ⟨K12, q12, e12, N12⟩ : ∃ H', H' = upd K11 g12 (HO.tup [.int (0)]) ∧ Same K11 H' ∧ H' g12 = some (HO.tup [.int (0)]) := ⟨_, rfl, same_new w12, upd_same⟩
    have z12 := S.new1 w12
    rw [← q12]
    replace S := S.same e12
    replace tb := tb.same e12
    replace tp := tp.same e12
    replace ts1 := ts1.same e12
    replace ts2 := ts2.same e12
    replace ts := ts.same e12
    replace tq := tq.same e12
    replace pp := pp.same e12
    replace ss := ss.same e12
    replace sq := sq.same e12
    replace b10 := b10.same e12
    replace b11 := b11.same e12
    have b12 := Sta.tup (K := K) (M := []) S (fun D h => by cases h) (SqT.of N12)
    clear q12 w12 N12 z12 e12
    refine ⟨small rfl, fun g13 w13 => ?_⟩
    obtain ⟨K13, q13, e13, N13⟩ : ∃ H', H' = upd K12 g13 (HO.tup [.bl true, .int (0)]) ∧ Same K12 H' ∧ H' g13 = some (HO.tup [.bl true, .int (0)]) := ⟨_, rfl, same_new w13, upd_same⟩
    have z13 := S.new1 w13
    rw [← q13]
    replace S := S.same e13
    replace tb := tb.same e13
    replace tp := tp.same e13
    replace ts1 := ts1.same e13
    replace ts2 := ts2.same e13
    replace ts := ts.same e13
    replace tq := tq.same e13
    replace pp := pp.same e13
    replace ss := ss.same e13
    replace sq := sq.same e13
    replace b10 := b10.same e13
    replace b11 := b11.same e13
    replace b12 := b12.same e13
    have b13 := Sta.tup (K := K) (M := []) S (fun D h => by cases h) (SqT.of N13)
    clear q13 w13 N13 z13 e13
    refine ⟨small rfl, fun g14 w14 => ?_⟩
    obtain ⟨K14, q14, e14, N14⟩ : ∃ H', H' = upd K13 g14 (HO.tup [.int (0), .str "1"]) ∧ Same K13 H' ∧ H' g14 = some (HO.tup [.int (0), .str "1"]) := ⟨_, rfl, same_new w14, upd_same⟩
    have z14 := S.new1 w14
    rw [← q14]
    replace S := S.same e14
    replace tb := tb.same e14
    replace tp := tp.same e14
    replace ts1 := ts1.same e14
    replace ts2 := ts2.same e14
    replace ts := ts.same e14
    replace tq := tq.same e14
    replace pp := pp.same e14
    replace ss := ss.same e14
    replace sq := sq.same e14
    replace b10 := b10.same e14
    replace b11 := b11.same e14
    replace b12 := b12.same e14
    replace b13 := b13.same e14
    have b14 := Sta.tup (K := K) (M := []) S (fun D h => by cases h) (SqT.of N14)
    clear q14 w14 N14 z14 e14
    have F_np : ∀ x ∈ [V.ref g10, V.ref g11, V.non, V.ref g12, V.ref g13, V.ref g14], Sta [] s K14 (fun H => PV K H x false) := by
      intro x hx
      simp only [List.mem_cons, List.not_mem_nil, or_false] at hx
      rcases hx with rfl | rfl | rfl | rfl | rfl | rfl
      · exact b10.map fun H h => PV.tup h (sc_ty rfl) (by decide)
      · exact b11.map fun H h => PV.no (.lst (SqL.of h)) (by decide)
      · exact Sta.of fun H => PV.no .non (by decide)
      · exact b12.map fun H h => PV.tup h (sc_ty rfl) (by decide)
      · exact b13.map fun H h => PV.tup h (sc_ty rfl) (by decide)
      · exact b14.map fun H h => PV.tup h (sc_ty rfl) (by decide)
    refine ⟨small rfl, fun g15 w15 => ?_⟩
    obtain ⟨K15, q15, e15, N15⟩ : ∃ H', H' = upd K14 g15 (HO.lst [V.ref g10, V.ref g11, V.non, V.ref g12, V.ref g13, V.ref g14]) ∧ Same K14 H' ∧ H' g15 = some (HO.lst [V.ref g10, V.ref g11, V.non, V.ref g12, V.ref g13, V.ref g14]) := ⟨_, rfl, same_new w15, upd_same⟩
    have z15 := S.new1 w15
    rw [← q15]
    replace S := S.same e15
    replace tb := tb.same e15
    replace tp := tp.same e15
    replace ts1 := ts1.same e15
    replace ts2 := ts2.same e15
    replace ts := ts.same e15
    replace tq := tq.same e15
    replace pp := pp.same e15
    replace ss := ss.same e15
    replace sq := sq.same e15
    replace b10 := b10.same e15
    replace b11 := b11.same e15
    replace b12 := b12.same e15
    replace b13 := b13.same e15
    replace b14 := b14.same e15
    replace F_np := fun x hx => (F_np x hx).same e15
    have L_np : Sta [] s K15 (fun H => H g15 = some (HO.lst [V.ref g10, V.ref g11, V.non, V.ref g12, V.ref g13, V.ref g14])) := Sta.lst z15 (by simp) N15
    clear q15 w15 N15 z15 e15
    refine ⟨_, rfl, _, _, _, rfl, by decide, by decide, S, fun d16 K16 a16 b16 S' B16 => ?_⟩
    replace tb := tb.but B16 S.lst
    replace tp := tp.but B16
    replace ts1 := ts1.but B16
    replace ts2 := ts2.but B16
    replace ts := ts.but B16
    replace tq := tq.but B16
    replace pp := pp.but B16
    replace ss := ss.but B16
    replace sq := sq.but B16
    replace b10 := b10.but B16
    replace b11 := b11.but B16
    replace b12 := b12.but B16
    replace b13 := b13.but B16
    replace b14 := b14.but B16
    replace L_np := L_np.but B16
    replace F_np := fun x hx => (F_np x hx).but B16
    clear S B16
    have S := S'
    clear S'
    obtain ⟨np, v16, m16⟩ := atAny (xs := [V.ref g10, V.ref g11, V.non, V.ref g12, V.ref g13, V.ref g14]) (i := d16) a16 b16
    refine ⟨_, _, _, _, rfl, rfl, SqL.of L_np.here, v16, ?_⟩
    have h_np := F_np np m16
    clear L_np F_np
    clear b10 b11 b12 b13 b14
    refine ⟨_, rfl, _, _, _, rfl, ts.here, fun g17 w17 => ?_⟩
    obtain ⟨K17, q17, e17, N17⟩ : ∃ H', H' = upd K16 g17 (HO.tup [.ref g3, .ref g2]) ∧ Same K16 H' ∧ H' g17 = some (HO.tup [.ref g3, .ref g2]) := ⟨_, rfl, same_new w17, upd_same⟩
    have z17 := S.new1 w17
    rw [← q17]
    replace S := S.same e17
    replace tb := tb.same e17
    replace tp := tp.same e17
    replace ts1 := ts1.same e17
    replace ts2 := ts2.same e17
    replace ts := ts.same e17
    replace tq := tq.same e17
    replace pp := pp.same e17
    replace ss := ss.same e17
    replace sq := sq.same e17
    replace h_np := h_np.same e17
    have b17 := Sta.tup (K := K) (M := []) S (fun D h => by cases h) (SqT.of N17)
    clear q17 w17 N17 z17 e17
    refine ⟨_, rfl, _, rfl, small rfl, fun g18 w18 => ?_⟩
    obtain ⟨K18, q18, e18, N18⟩ : ∃ H', H' = upd K17 g18 (HO.tup [.ref g1, .ref g1]) ∧ Same K17 H' ∧ H' g18 = some (HO.tup [.ref g1, .ref g1]) := ⟨_, rfl, same_new w18, upd_same⟩
    have z18 := S.new1 w18
    rw [← q18]
    replace S := S.same e18
    replace tb := tb.same e18
    replace tp := tp.same e18
    replace ts1 := ts1.same e18
    replace ts2 := ts2.same e18
    replace ts := ts.same e18
    replace tq := tq.same e18
    replace pp := pp.same e18
    replace ss := ss.same e18
    replace sq := sq.same e18
    replace h_np := h_np.same e18
    replace b17 := b17.same e18
    have b18 := Sta.tup (K := K) (M := []) S (fun D h => by cases h) (SqT.of N18)
    clear q18 w18 N18 z18 e18
    refine ⟨_, rfl, _, _, rfl, .inr ts.here, fun g19 w19 => ?_⟩
    obtain ⟨K19, q19, e19, N19⟩ : ∃ H', H' = upd K18 g19 (HO.lst [.ref g2, .ref g3]) ∧ Same K18 H' ∧ H' g19 = some (HO.lst [.ref g2, .ref g3]) := ⟨_, rfl, same_new w19, upd_same⟩
    have z19 := S.new1 w19
    rw [← q19]
    replace S := S.same e19
    replace tb := tb.same e19
    replace tp := tp.same e19
    replace ts1 := ts1.same e19
    replace ts2 := ts2.same e19
    replace ts := ts.same e19
    replace tq := tq.same e19
    replace pp := pp.same e19
    replace ss := ss.same e19
    replace sq := sq.same e19
    replace h_np := h_np.same e19
    replace b17 := b17.same e19
    replace b18 := b18.same e19
    have b19 : Sta [] s K19 (fun H => H g19 = some (HO.lst [.ref g2, .ref g3])) := Sta.lst z19 (by simp) N19
    clear q19 w19 N19 z19 e19
    refine ⟨_, rfl, _, rfl, small rfl, fun g20 w20 => ?_⟩
    obtain ⟨K20, q20, e20, N20⟩ : ∃ H', H' = upd K19 g20 (HO.tup [.ref g1, np]) ∧ Same K19 H' ∧ H' g20 = some (HO.tup [.ref g1, np]) := ⟨_, rfl, same_new w20, upd_same⟩
    have z20 := S.new1 w20
    rw [← q20]
    replace S := S.same e20
    replace tb := tb.same e20
    replace tp := tp.same e20
    replace ts1 := ts1.same e20
    replace ts2 := ts2.same e20
    replace ts := ts.same e20
    replace tq := tq.same e20
    replace pp := pp.same e20
    replace ss := ss.same e20
    replace sq := sq.same e20
    replace h_np := h_np.same e20
    replace b17 := b17.same e20
    replace b18 := b18.same e20
    replace b19 := b19.same e20
    have b20 := Sta.tup (K := K) (M := []) S (fun D h => by cases h) (SqT.of N20)
    clear q20 w20 N20 z20 e20
    have F_ns : ∀ x ∈ [V.ref g17, V.ref g18, V.ref g19, V.non, V.ref g20], Sta [] s K20 (fun H => SgV K H x false) := by
      intro x hx
      simp only [List.mem_cons, List.not_mem_nil, or_false] at hx
      rcases hx with rfl | rfl | rfl | rfl | rfl
      · exact fun H' q => SgV.two (b17 H' q) (ts2 H' q) (ts1 H' q) (show On 1000 (-1000) by unfold On; omega) (show On (-1000) 1000 by unfold On; omega) rfl
      · exact fun H' q => SgV.two (b18 H' q) (tp H' q) (tp H' q) (show On (-1000) 1000 by unfold On; omega) (show On (-1000) 1000 by unfold On; omega) (ltP_self _ _)
      · exact b19.map fun H h => SgV.no (.lst (SqL.of h)) (by decide)
      · exact Sta.of fun H => SgV.no .non (by decide)
      · exact fun H' q => SgV.bad (b20 H' q) (pp H' q) (h_np H' q) rfl
    refine ⟨small rfl, fun g21 w21 => ?_⟩
    obtain ⟨K21, q21, e21, N21⟩ : ∃ H', H' = upd K20 g21 (HO.lst [V.ref g17, V.ref g18, V.ref g19, V.non, V.ref g20]) ∧ Same K20 H' ∧ H' g21 = some (HO.lst [V.ref g17, V.ref g18, V.ref g19, V.non, V.ref g20]) := ⟨_, rfl, same_new w21, upd_same⟩
    have z21 := S.new1 w21
    rw [← q21]
    replace S := S.same e21
    replace tb := tb.same e21
    replace tp := tp.same e21
    replace ts1 := ts1.same e21
    replace ts2 := ts2.same e21
    replace ts := ts.same e21
    replace tq := tq.same e21
    replace pp := pp.same e21
    replace ss := ss.same e21
    replace sq := sq.same e21
    replace h_np := h_np.same e21
    replace b17 := b17.same e21
    replace b18 := b18.same e21
    replace b19 := b19.same e21
    replace b20 := b20.same e21
    replace F_ns := fun x hx => (F_ns x hx).same e21
    have L_ns : Sta [] s K21 (fun H => H g21 = some (HO.lst [V.ref g17, V.ref g18, V.ref g19, V.non, V.ref g20])) := Sta.lst z21 (by simp) N21
    clear q21 w21 N21 z21 e21
    refine ⟨_, rfl, _, _, _, rfl, by decide, by decide, S, fun d22 K22 a22 b22 S' B22 => ?_⟩
    replace tb := tb.but B22 S.lst
    replace tp := tp.but B22
    replace ts1 := ts1.but B22
    replace ts2 := ts2.but B22
    replace ts := ts.but B22
    replace tq := tq.but B22
    replace pp := pp.but B22
    replace ss := ss.but B22
    replace sq := sq.but B22
    replace h_np := h_np.but B22
    replace b17 := b17.but B22
    replace b18 := b18.but B22
    replace b19 := b19.but B22
    replace b20 := b20.but B22
    replace L_ns := L_ns.but B22
    replace F_ns := fun x hx => (F_ns x hx).but B22
    clear S B22
    have S := S'
    clear S'
    obtain ⟨ns, v22, m22⟩ := atAny (xs := [V.ref g17, V.ref g18, V.ref g19, V.non, V.ref g20]) (i := d22) a22 b22
    refine ⟨_, _, _, _, rfl, rfl, SqL.of L_ns.here, v22, ?_⟩
    have h_ns := F_ns ns m22
    clear L_ns F_ns
    clear b17 b18 b19 b20
    refine ⟨_, rfl, small rfl, fun g23 w23 => ?_⟩
    obtain ⟨K23, q23, e23, N23⟩ : ∃ H', H' = upd K22 g23 (HO.tup [.ref g1]) ∧ Same K22 H' ∧ H' g23 = some (HO.tup [.ref g1]) := ⟨_, rfl, same_new w23, upd_same⟩
    have z23 := S.new1 w23
    rw [← q23]
    replace S := S.same e23
    replace tb := tb.same e23
    replace tp := tp.same e23
    replace ts1 := ts1.same e23
    replace ts2 := ts2.same e23
    replace ts := ts.same e23
    replace tq := tq.same e23
    replace pp := pp.same e23
    replace ss := ss.same e23
    replace sq := sq.same e23
    replace h_np := h_np.same e23
    replace h_ns := h_ns.same e23
    have b23 := Sta.tup (K := K) (M := []) S (fun D h => by cases h) (SqT.of N23)
    clear q23 w23 N23 z23 e23
    refine ⟨_, rfl, _, rfl, small rfl, fun g24 w24 => ?_⟩
    obtain ⟨K24, q24, e24, N24⟩ : ∃ H', H' = upd K23 g24 (HO.tup [.ref g1, .ref g1]) ∧ Same K23 H' ∧ H' g24 = some (HO.tup [.ref g1, .ref g1]) := ⟨_, rfl, same_new w24, upd_same⟩
    have z24 := S.new1 w24
    rw [← q24]
    replace S := S.same e24
    replace tb := tb.same e24
    replace tp := tp.same e24
    replace ts1 := ts1.same e24
    replace ts2 := ts2.same e24
    replace ts := ts.same e24
    replace tq := tq.same e24
    replace pp := pp.same e24
    replace ss := ss.same e24
    replace sq := sq.same e24
    replace h_np := h_np.same e24
    replace h_ns := h_ns.same e24
    replace b23 := b23.same e24
    have b24 := Sta.tup (K := K) (M := []) S (fun D h => by cases h) (SqT.of N24)
    clear q24 w24 N24 z24 e24
    refine ⟨_, rfl, _, _, rfl, .inr ts.here, fun g25 w25 => ?_⟩
    obtain ⟨K25, q25, e25, N25⟩ : ∃ H', H' = upd K24 g25 (HO.lst [.ref g2, .ref g3]) ∧ Same K24 H' ∧ H' g25 = some (HO.lst [.ref g2, .ref g3]) := ⟨_, rfl, same_new w25, upd_same⟩
    have z25 := S.new1 w25
    rw [← q25]
    replace S := S.same e25
    replace tb := tb.same e25
    replace tp := tp.same e25
    replace ts1 := ts1.same e25
    replace ts2 := ts2.same e25
    replace ts := ts.same e25
    replace tq := tq.same e25
    replace pp := pp.same e25
    replace ss := ss.same e25
    replace sq := sq.same e25
    replace h_np := h_np.same e25
    replace h_ns := h_ns.same e25
    replace b23 := b23.same e25
    replace b24 := b24.same e25
    have b25 : Sta [] s K25 (fun H => H g25 = some (HO.lst [.ref g2, .ref g3])) := Sta.lst z25 (by simp) N25
    clear q25 w25 N25 z25 e25
    refine ⟨_, rfl, _, rfl, small rfl, fun g26 w26 => ?_⟩
    obtain ⟨K26, q26, e26, N26⟩ : ∃ H', H' = upd K25 g26 (HO.tup [np]) ∧ Same K25 H' ∧ H' g26 = some (HO.tup [np]) := ⟨_, rfl, same_new w26, upd_same⟩
    have z26 := S.new1 w26
    rw [← q26]
    replace S := S.same e26
    replace tb := tb.same e26
    replace tp := tp.same e26
    replace ts1 := ts1.same e26
    replace ts2 := ts2.same e26
    replace ts := ts.same e26
    replace tq := tq.same e26
    replace pp := pp.same e26
    replace ss := ss.same e26
    replace sq := sq.same e26
    replace h_np := h_np.same e26
    replace h_ns := h_ns.same e26
    replace b23 := b23.same e26
    replace b24 := b24.same e26
    replace b25 := b25.same e26
    have c26 := Sta.tup (K := K) (M := []) S (fun D h => by cases h) (SqT.of N26)
    clear q26 w26 N26 z26 e26
    refine catA_of ts.here c26.here (small rfl) fun g27 K27 e27 N27 => ?_
    replace S := S.same e27
    replace tb := tb.same e27
    replace tp := tp.same e27
    replace ts1 := ts1.same e27
    replace ts2 := ts2.same e27
    replace ts := ts.same e27
    replace tq := tq.same e27
    replace pp := pp.same e27
    replace ss := ss.same e27
    replace sq := sq.same e27
    replace h_np := h_np.same e27
    replace h_ns := h_ns.same e27
    replace b23 := b23.same e27
    replace b24 := b24.same e27
    replace b25 := b25.same e27
    replace c26 := c26.same e27
    clear e27
    have b27 := Sta.tup (K := K) (M := []) S (fun D h => by cases h) N27
    clear c26
    refine ⟨_, rfl, small rfl, fun g28 w28 => ?_⟩
    obtain ⟨K28, q28, e28, N28⟩ : ∃ H', H' = upd K27 g28 (HO.tup [.int (0), .int (0)]) ∧ Same K27 H' ∧ H' g28 = some (HO.tup [.int (0), .int (0)]) := ⟨_, rfl, same_new w28, upd_same⟩
    have z28 := S.new1 w28
    rw [← q28]
    replace S := S.same e28
    replace tb := tb.same e28
    replace tp := tp.same e28
    replace ts1 := ts1.same e28
    replace ts2 := ts2.same e28
    replace ts := ts.same e28
    replace tq := tq.same e28
    replace pp := pp.same e28
    replace ss := ss.same e28
    replace sq := sq.same e28
    replace h_np := h_np.same e28
    replace h_ns := h_ns.same e28
    replace b23 := b23.same e28
    replace b24 := b24.same e28
    replace b25 := b25.same e28
    replace b27 := b27.same e28
    have c28 := Sta.tup (K := K) (M := []) S (fun D h => by cases h) (SqT.of N28)
    clear q28 w28 N28 z28 e28
    refine ⟨small rfl, fun g29 w29 => ?_⟩
    obtain ⟨K29, q29, e29, N29⟩ : ∃ H', H' = upd K28 g29 (HO.tup [.ref g1, .ref g28]) ∧ Same K28 H' ∧ H' g29 = some (HO.tup [.ref g1, .ref g28]) := ⟨_, rfl, same_new w29, upd_same⟩
    have z29 := S.new1 w29
    rw [← q29]
    replace S := S.same e29
    replace tb := tb.same e29
    replace tp := tp.same e29
    replace ts1 := ts1.same e29
    replace ts2 := ts2.same e29
    replace ts := ts.same e29
    replace tq := tq.same e29
    replace pp := pp.same e29
    replace ss := ss.same e29
    replace sq := sq.same e29
    replace h_np := h_np.same e29
    replace h_ns := h_ns.same e29
    replace b23 := b23.same e29
    replace b24 := b24.same e29
    replace b25 := b25.same e29
    replace b27 := b27.same e29
    replace c28 := c28.same e29
    have c29 := Sta.tup (K := K) (M := []) S (fun D h => by cases h) (SqT.of N29)
    clear q29 w29 N29 z29 e29
    refine ⟨_, _, _, rfl, rfl, c29.here, (by simp), by decide, by decide, (by simp), fun g30 w30 => ?_⟩
    obtain ⟨K30, q30, e30, N30⟩ : ∃ H', H' = upd K29 g30 (HO.tup (List.replicate (Int.toNat 21) [V.ref g1, .ref g28]).flatten) ∧ Same K29 H' ∧ H' g30 = some (HO.tup (List.replicate (Int.toNat 21) [V.ref g1, .ref g28]).flatten) := ⟨_, rfl, same_new w30, upd_same⟩
    have z30 := S.new1 w30
    rw [← q30]
    replace S := S.same e30
    replace tb := tb.same e30
    replace tp := tp.same e30
    replace ts1 := ts1.same e30
    replace ts2 := ts2.same e30
    replace ts := ts.same e30
    replace tq := tq.same e30
    replace pp := pp.same e30
    replace ss := ss.same e30
    replace sq := sq.same e30
    replace h_np := h_np.same e30
    replace h_ns := h_ns.same e30
    replace b23 := b23.same e30
    replace b24 := b24.same e30
    replace b25 := b25.same e30
    replace b27 := b27.same e30
    replace c28 := c28.same e30
    replace c29 := c29.same e30
    have c30 := Sta.tup (K := K) (M := []) S (fun D h => by cases h) (SqT.of N30)
    clear q30 w30 N30 z30 e30
    have b30 : Sta [] s K30 (fun H => LnAt K H g30 (List.replicate 21 [((g1, -1000, 1000) : Zp), (g28, 0, 0)]).flatten) := fun H' q => ⟨by rw [alt_refs]; exact c30 H' q, fun z hz => (alt_mem hz).elim (fun e => by rw [e]; exact tp H' q) (fun e => by rw [e]; exact c28 H' q), fun z hz => (alt_mem hz).elim (fun e => by rw [e]; exact (show On (-1000) 1000 by unfold On; omega)) (fun e => by rw [e]; show On 0 0; unfold On; omega)⟩
    clear c28 c29 c30
    have F_nl : ∀ x ∈ [V.ref g23, V.ref g24, V.ref g25, V.non, V.ref g27, V.ref g30], Sta [] s K30 (fun H => LnV K H x false) := by
      intro x hx
      simp only [List.mem_cons, List.not_mem_nil, or_false] at hx
      rcases hx with rfl | rfl | rfl | rfl | rfl | rfl
      · exact fun H' q => LnV.not (zs := [(g1, -1000, 1000)]) ⟨b23 H' q, (fun z hz => by rw [List.mem_singleton] at hz; rw [hz]; exact tp H' q), (fun z hz => by rw [List.mem_singleton] at hz; rw [hz]; exact (show On (-1000) 1000 by unfold On; omega))⟩ (by show 1 ≤ 1000; decide) (fun z => absurd z.1 (by show ¬ 2 ≤ 1; decide))
      · exact fun H' q => LnV.not (zs := [(g1, -1000, 1000), (g1, -1000, 1000)]) ⟨b24 H' q, (fun z hz => by simp only [List.mem_cons, List.not_mem_nil, or_false] at hz; rcases hz with rfl | rfl <;> exact tp H' q), (fun z hz => by simp only [List.mem_cons, List.not_mem_nil, or_false] at hz; rcases hz with rfl | rfl <;> exact (show On (-1000) 1000 by unfold On; omega))⟩ (by show 2 ≤ 1000; decide) (fun z => z.2.2 0 _ _ rfl rfl ⟨rfl, rfl⟩)
      · exact b25.map fun H h => LnV.no (.lst (SqL.of h)) (by decide)
      · exact Sta.of fun H => LnV.no .non (by decide)
      · exact fun H' q => LnV.bad (us := [(g2, -1000, 1000), (g3, 1000, -1000)]) (ws := []) (b27 H' q) (fun z hz => by simp only [List.mem_cons, List.not_mem_nil, or_false] at hz; rcases hz with rfl | rfl; exact ts1 H' q; exact ts2 H' q) (fun z hz => by simp only [List.mem_cons, List.not_mem_nil, or_false] at hz; rcases hz with rfl | rfl; exact (show On (-1000) 1000 by unfold On; omega); exact (show On 1000 (-1000) by unfold On; omega)) Pts.nil (fun z hz => by cases hz) (h_np H' q) (by show 2 + 0 ≤ 900; decide)
      · exact b30.map fun H h => LnV.not h (by rw [alt_len]; decide) (fun z => by have := z.2.1; rw [alt_len] at this; omega)
    refine ⟨small rfl, fun g31 w31 => ?_⟩
    obtain ⟨K31, q31, e31, N31⟩ : ∃ H', H' = upd K30 g31 (HO.lst [V.ref g23, V.ref g24, V.ref g25, V.non, V.ref g27, V.ref g30]) ∧ Same K30 H' ∧ H' g31 = some (HO.lst [V.ref g23, V.ref g24, V.ref g25, V.non, V.ref g27, V.ref g30]) := ⟨_, rfl, same_new w31, upd_same⟩
    have z31 := S.new1 w31
    rw [← q31]
    replace S := S.same e31
    replace tb := tb.same e31
    replace tp := tp.same e31
    replace ts1 := ts1.same e31
    replace ts2 := ts2.same e31
    replace ts := ts.same e31
    replace tq := tq.same e31
    replace pp := pp.same e31
    replace ss := ss.same e31
    replace sq := sq.same e31
    replace h_np := h_np.same e31
    replace h_ns := h_ns.same e31
    replace b23 := b23.same e31
    replace b24 := b24.same e31
    replace b25 := b25.same e31
    replace b27 := b27.same e31
    replace b30 := b30.same e31
    replace F_nl := fun x hx => (F_nl x hx).same e31
    have L_nl : Sta [] s K31 (fun H => H g31 = some (HO.lst [V.ref g23, V.ref g24, V.ref g25, V.non, V.ref g27, V.ref g30])) := Sta.lst z31 (by simp) N31
    clear q31 w31 N31 z31 e31
    refine ⟨_, rfl, _, _, _, rfl, by decide, by decide, S, fun d32 K32 a32 b32 S' B32 => ?_⟩
    replace tb := tb.but B32 S.lst
    replace tp := tp.but B32
    replace ts1 := ts1.but B32
    replace ts2 := ts2.but B32
    replace ts := ts.but B32
    replace tq := tq.but B32
    replace pp := pp.but B32
    replace ss := ss.but B32
    replace sq := sq.but B32
    replace h_np := h_np.but B32
    replace h_ns := h_ns.but B32
    replace b23 := b23.but B32
    replace b24 := b24.but B32
    replace b25 := b25.but B32
    replace b27 := b27.but B32
    replace b30 := b30.but B32
    replace L_nl := L_nl.but B32
    replace F_nl := fun x hx => (F_nl x hx).but B32
    clear S B32
    have S := S'
    clear S'
    obtain ⟨nl, v32, m32⟩ := atAny (xs := [V.ref g23, V.ref g24, V.ref g25, V.non, V.ref g27, V.ref g30]) (i := d32) a32 b32
    refine ⟨_, _, _, _, rfl, rfl, SqL.of L_nl.here, v32, ?_⟩
    have h_nl := F_nl nl m32
    clear L_nl F_nl
    clear b23 b24 b25 b27 b30
    refine ⟨_, rfl, _, _, rfl, sq.here.t, (by show 1 ≤ 4; decide), fun g33 o33 w33 d33 => ?_⟩
    obtain ⟨K33, q33, e33, N33⟩ : ∃ H', H' = upd K32 g33 (HO.frz o33 (.tup (refs [(g5, 0, 0), (g6, 4, 0), (g7, 4, 4), (g8, 0, 4)]).reverse)) ∧ Same K32 H' ∧ H' g33 = some (HO.frz o33 (.tup (refs [(g5, 0, 0), (g6, 4, 0), (g7, 4, 4), (g8, 0, 4)]).reverse)) := ⟨_, rfl, same_new w33, upd_same⟩
    have z33 := S.new1 w33
    rw [← q33]
    replace S := S.same e33
    replace tb := tb.same e33
    replace tp := tp.same e33
    replace ts1 := ts1.same e33
    replace ts2 := ts2.same e33
    replace ts := ts.same e33
    replace tq := tq.same e33
    replace pp := pp.same e33
    replace ss := ss.same e33
    replace sq := sq.same e33
    replace h_np := h_np.same e33
    replace h_ns := h_ns.same e33
    replace h_nl := h_nl.same e33
    have c33 := Sta.tn (M := []) S (fun D h => by cases h) ⟨_, N33, d33⟩
    clear q33 w33 N33 z33 e33
    have b33 : Sta [] s K33 (fun H => TN H g33 (refs [(g8, 0, 4), (g7, 4, 4), (g6, 4, 0), (g5, 0, 0)]) ∧ LnAt K H g33 [(g8, 0, 4), (g7, 4, 4), (g6, 4, 0), (g5, 0, 0)]) := fun H' q => ⟨c33 H' q, (sq H' q).sub (fun z hz => by simp only [List.mem_cons, List.not_mem_nil, or_false] at hz ⊢; rcases hz with rfl | rfl | rfl | rfl <;> simp) (c33 H' q).t⟩
    clear c33
    refine ⟨_, rfl, _, rfl, ?_⟩
    refine noPart (slA_of sq.here.t fun g34 K34 e34 N34 => ?_)
    replace S := S.same e34
    replace tb := tb.same e34
    replace tp := tp.same e34
    replace ts1 := ts1.same e34
    replace ts2 := ts2.same e34
    replace ts := ts.same e34
    replace tq := tq.same e34
    replace pp := pp.same e34
    replace ss := ss.same e34
    replace sq := sq.same e34
    replace h_np := h_np.same e34
    replace h_ns := h_ns.same e34
    replace h_nl := h_nl.same e34
    replace b33 := b33.same e34
    clear e34
    have c34 := Sta.tup (K := K) (M := []) S (fun D h => by cases h) N34
    refine ⟨_, rfl, _, rfl, ?_⟩
    refine slA_of sq.here.t fun g35 K35 e35 N35 => ?_
    replace S := S.same e35
    replace tb := tb.same e35
    replace tp := tp.same e35
    replace ts1 := ts1.same e35
    replace ts2 := ts2.same e35
    replace ts := ts.same e35
    replace tq := tq.same e35
    replace pp := pp.same e35
    replace ss := ss.same e35
    replace sq := sq.same e35
    replace h_np := h_np.same e35
    replace h_ns := h_ns.same e35
    replace h_nl := h_nl.same e35
    replace b33 := b33.same e35
    replace c34 := c34.same e35
    clear e35
    have c35 := Sta.tup (K := K) (M := []) S (fun D h => by cases h) N35
    refine catA_of c34.here c35.here (small rfl) fun g36 K36 e36 N36 => ?_
    replace S := S.same e36
    replace tb := tb.same e36
    replace tp := tp.same e36
    replace ts1 := ts1.same e36
    replace ts2 := ts2.same e36
    replace ts := ts.same e36
    replace tq := tq.same e36
    replace pp := pp.same e36
    replace ss := ss.same e36
    replace sq := sq.same e36
    replace h_np := h_np.same e36
    replace h_ns := h_ns.same e36
    replace h_nl := h_nl.same e36
    replace b33 := b33.same e36
    replace c34 := c34.same e36
    replace c35 := c35.same e36
    clear e36
    have c36 := Sta.tup (K := K) (M := []) S (fun D h => by cases h) N36
    have b36 : Sta [] s K36 (fun H => LnAt K H g36 [(g6, 4, 0), (g7, 4, 4), (g8, 0, 4), (g5, 0, 0)]) := fun H' q => (sq H' q).sub (fun z hz => by simp only [List.mem_cons, List.not_mem_nil, or_false] at hz ⊢; rcases hz with rfl | rfl | rfl | rfl <;> simp) (c36 H' q)
    clear c34 c35 c36
    refine ⟨_, rfl, _, rfl, ?_⟩
    refine slA_of sq.here.t fun g37 K37 e37 N37 => ?_
    replace S := S.same e37
    replace tb := tb.same e37
    replace tp := tp.same e37
    replace ts1 := ts1.same e37
    replace ts2 := ts2.same e37
    replace ts := ts.same e37
    replace tq := tq.same e37
    replace pp := pp.same e37
    replace ss := ss.same e37
    replace sq := sq.same e37
    replace h_np := h_np.same e37
    replace h_ns := h_ns.same e37
    replace h_nl := h_nl.same e37
    replace b33 := b33.same e37
    replace b36 := b36.same e37
    clear e37
    have c37 := Sta.tup (K := K) (M := []) S (fun D h => by cases h) N37
    have b37 : Sta [] s K37 (fun H => LnAt K H g37 [(g5, 0, 0), (g6, 4, 0)]) := fun H' q => (sq H' q).sub (fun z hz => by simp only [List.mem_cons, List.not_mem_nil, or_false] at hz ⊢; rcases hz with rfl | rfl <;> simp) (c37 H' q)
    clear c37
    refine ⟨_, rfl, _, _, rfl, .inr sq.here.t, fun g38 w38 => ?_⟩
    obtain ⟨K38, q38, e38, N38⟩ : ∃ H', H' = upd K37 g38 (HO.lst (refs [(g5, 0, 0), (g6, 4, 0), (g7, 4, 4), (g8, 0, 4)])) ∧ Same K37 H' ∧ H' g38 = some (HO.lst (refs [(g5, 0, 0), (g6, 4, 0), (g7, 4, 4), (g8, 0, 4)])) := ⟨_, rfl, same_new w38, upd_same⟩
    have z38 := S.new1 w38
    rw [← q38]
    replace S := S.same e38
    replace tb := tb.same e38
    replace tp := tp.same e38
    replace ts1 := ts1.same e38
    replace ts2 := ts2.same e38
    replace ts := ts.same e38
    replace tq := tq.same e38
    replace pp := pp.same e38
    replace ss := ss.same e38
    replace sq := sq.same e38
    replace h_np := h_np.same e38
    replace h_ns := h_ns.same e38
    replace h_nl := h_nl.same e38
    replace b33 := b33.same e38
    replace b36 := b36.same e38
    replace b37 := b37.same e38
    have b38 : Sta [] s K38 (fun H => H g38 = some (HO.lst (refs [(g5, 0, 0), (g6, 4, 0), (g7, 4, 4), (g8, 0, 4)]))) := Sta.lst z38 (by simp) N38
    clear q38 w38 N38 z38 e38
    refine ⟨small rfl, fun g39 w39 => ?_⟩
    obtain ⟨K39, q39, e39, N39⟩ : ∃ H', H' = upd K38 g39 (HO.tup [.int (0), .int (0)]) ∧ Same K38 H' ∧ H' g39 = some (HO.tup [.int (0), .int (0)]) := ⟨_, rfl, same_new w39, upd_same⟩
    have z39 := S.new1 w39
    rw [← q39]
    replace S := S.same e39
    replace tb := tb.same e39
    replace tp := tp.same e39
    replace ts1 := ts1.same e39
    replace ts2 := ts2.same e39
    replace ts := ts.same e39
    replace tq := tq.same e39
    replace pp := pp.same e39
    replace ss := ss.same e39
    replace sq := sq.same e39
    replace h_np := h_np.same e39
    replace h_ns := h_ns.same e39
    replace h_nl := h_nl.same e39
    replace b33 := b33.same e39
    replace b36 := b36.same e39
    replace b37 := b37.same e39
    replace b38 := b38.same e39
    have c39 := Sta.tup (K := K) (M := []) S (fun D h => by cases h) (SqT.of N39)
    clear q39 w39 N39 z39 e39
    refine ⟨small rfl, fun g40 w40 => ?_⟩
    obtain ⟨K40, q40, e40, N40⟩ : ∃ H', H' = upd K39 g40 (HO.tup [.int (4), .int (4)]) ∧ Same K39 H' ∧ H' g40 = some (HO.tup [.int (4), .int (4)]) := ⟨_, rfl, same_new w40, upd_same⟩
    have z40 := S.new1 w40
    rw [← q40]
    replace S := S.same e40
    replace tb := tb.same e40
    replace tp := tp.same e40
    replace ts1 := ts1.same e40
    replace ts2 := ts2.same e40
    replace ts := ts.same e40
    replace tq := tq.same e40
    replace pp := pp.same e40
    replace ss := ss.same e40
    replace sq := sq.same e40
    replace h_np := h_np.same e40
    replace h_ns := h_ns.same e40
    replace h_nl := h_nl.same e40
    replace b33 := b33.same e40
    replace b36 := b36.same e40
    replace b37 := b37.same e40
    replace b38 := b38.same e40
    replace c39 := c39.same e40
    have c40 := Sta.tup (K := K) (M := []) S (fun D h => by cases h) (SqT.of N40)
    clear q40 w40 N40 z40 e40
    refine ⟨small rfl, fun g41 w41 => ?_⟩
    obtain ⟨K41, q41, e41, N41⟩ : ∃ H', H' = upd K40 g41 (HO.tup [.int (4), .int (0)]) ∧ Same K40 H' ∧ H' g41 = some (HO.tup [.int (4), .int (0)]) := ⟨_, rfl, same_new w41, upd_same⟩
    have z41 := S.new1 w41
    rw [← q41]
    replace S := S.same e41
    replace tb := tb.same e41
    replace tp := tp.same e41
    replace ts1 := ts1.same e41
    replace ts2 := ts2.same e41
    replace ts := ts.same e41
    replace tq := tq.same e41
    replace pp := pp.same e41
    replace ss := ss.same e41
    replace sq := sq.same e41
    replace h_np := h_np.same e41
    replace h_ns := h_ns.same e41
    replace h_nl := h_nl.same e41
    replace b33 := b33.same e41
    replace b36 := b36.same e41
    replace b37 := b37.same e41
    replace b38 := b38.same e41
    replace c39 := c39.same e41
    replace c40 := c40.same e41
    have c41 := Sta.tup (K := K) (M := []) S (fun D h => by cases h) (SqT.of N41)
    clear q41 w41 N41 z41 e41
    refine ⟨small rfl, fun g42 w42 => ?_⟩
    obtain ⟨K42, q42, e42, N42⟩ : ∃ H', H' = upd K41 g42 (HO.tup [.int (0), .int (4)]) ∧ Same K41 H' ∧ H' g42 = some (HO.tup [.int (0), .int (4)]) := ⟨_, rfl, same_new w42, upd_same⟩
    have z42 := S.new1 w42
    rw [← q42]
    replace S := S.same e42
    replace tb := tb.same e42
    replace tp := tp.same e42
    replace ts1 := ts1.same e42
    replace ts2 := ts2.same e42
    replace ts := ts.same e42
    replace tq := tq.same e42
    replace pp := pp.same e42
    replace ss := ss.same e42
    replace sq := sq.same e42
    replace h_np := h_np.same e42
    replace h_ns := h_ns.same e42
    replace h_nl := h_nl.same e42
    replace b33 := b33.same e42
    replace b36 := b36.same e42
    replace b37 := b37.same e42
    replace b38 := b38.same e42
    replace c39 := c39.same e42
    replace c40 := c40.same e42
    replace c41 := c41.same e42
    have c42 := Sta.tup (K := K) (M := []) S (fun D h => by cases h) (SqT.of N42)
    clear q42 w42 N42 z42 e42
    refine ⟨small rfl, fun g43 w43 => ?_⟩
    obtain ⟨K43, q43, e43, N43⟩ : ∃ H', H' = upd K42 g43 (HO.tup [.ref g39, .ref g40, .ref g41, .ref g42]) ∧ Same K42 H' ∧ H' g43 = some (HO.tup [.ref g39, .ref g40, .ref g41, .ref g42]) := ⟨_, rfl, same_new w43, upd_same⟩
    have z43 := S.new1 w43
    rw [← q43]
    replace S := S.same e43
    replace tb := tb.same e43
    replace tp := tp.same e43
    replace ts1 := ts1.same e43
    replace ts2 := ts2.same e43
    replace ts := ts.same e43
    replace tq := tq.same e43
    replace pp := pp.same e43
    replace ss := ss.same e43
    replace sq := sq.same e43
    replace h_np := h_np.same e43
    replace h_ns := h_ns.same e43
    replace h_nl := h_nl.same e43
    replace b33 := b33.same e43
    replace b36 := b36.same e43
    replace b37 := b37.same e43
    replace b38 := b38.same e43
    replace c39 := c39.same e43
    replace c40 := c40.same e43
    replace c41 := c41.same e43
    replace c42 := c42.same e43
    have c43 := Sta.tup (K := K) (M := []) S (fun D h => by cases h) (SqT.of N43)
    clear q43 w43 N43 z43 e43
    have b43 : Sta [] s K43 (fun H => LnAt K H g43 [(g39, 0, 0), (g40, 4, 4), (g41, 4, 0), (g42, 0, 4)]) := fun H' q => ⟨c43 H' q, fun z hz => by
      simp only [List.mem_cons, List.not_mem_nil, or_false] at hz
      rcases hz with rfl | rfl | rfl | rfl
      · exact c39 H' q
      · exact c40 H' q
      · exact c41 H' q
      · exact c42 H' q, fun z hz => by
      simp only [List.mem_cons, List.not_mem_nil, or_false] at hz
      rcases hz with rfl | rfl | rfl | rfl <;> (unfold On; dsimp only; omega)⟩
    clear c39 c40 c41 c42 c43
    have F_nr : ∀ x ∈ [V.ref g33, V.ref g36, V.ref g37, V.ref g38, V.non, V.ref g43], Sta [] s K43 (fun H => RgV K H x false) := by
      intro x hx
      simp only [List.mem_cons, List.not_mem_nil, or_false] at hx
      rcases hx with rfl | rfl | rfl | rfl | rfl | rfl
      · exact b33.map fun H h => .inl ⟨_, _, rfl, h.2, (by show 4 ≤ 1000; decide), ⟨(fun z => by cases z), fun R => (back_no R).elim⟩⟩
      · exact b36.map fun H h => .inl ⟨_, _, rfl, h, (by show 4 ≤ 1000; decide), ⟨(fun z => by cases z), fun R => (rot_no R).elim⟩⟩
      · exact b37.map fun H h => .inl ⟨_, _, rfl, h, (by show 2 ≤ 1000; decide), ⟨(fun z => by cases z), fun R => absurd R.l3 (by show ¬ 3 ≤ 2; decide)⟩⟩
      · exact b38.map fun H h => .inr ⟨AV.no (.lst (SqL.of h)) (by decide), rfl⟩
      · exact Sta.of fun H => .inr ⟨AV.no .non (by decide), rfl⟩
      · exact b43.map fun H h => .inl ⟨_, _, rfl, h, (by show 4 ≤ 1000; decide), ⟨(fun z => by cases z), fun R => (bow_no R.simp).elim⟩⟩
    refine ⟨small rfl, fun g44 w44 => ?_⟩
    obtain ⟨K44, q44, e44, N44⟩ : ∃ H', H' = upd K43 g44 (HO.lst [V.ref g33, V.ref g36, V.ref g37, V.ref g38, V.non, V.ref g43]) ∧ Same K43 H' ∧ H' g44 = some (HO.lst [V.ref g33, V.ref g36, V.ref g37, V.ref g38, V.non, V.ref g43]) := ⟨_, rfl, same_new w44, upd_same⟩
    have z44 := S.new1 w44
    rw [← q44]
    replace S := S.same e44
    replace tb := tb.same e44
    replace tp := tp.same e44
    replace ts1 := ts1.same e44
    replace ts2 := ts2.same e44
    replace ts := ts.same e44
    replace tq := tq.same e44
    replace pp := pp.same e44
    replace ss := ss.same e44
    replace sq := sq.same e44
    replace h_np := h_np.same e44
    replace h_ns := h_ns.same e44
    replace h_nl := h_nl.same e44
    replace b33 := b33.same e44
    replace b36 := b36.same e44
    replace b37 := b37.same e44
    replace b38 := b38.same e44
    replace b43 := b43.same e44
    replace F_nr := fun x hx => (F_nr x hx).same e44
    have L_nr : Sta [] s K44 (fun H => H g44 = some (HO.lst [V.ref g33, V.ref g36, V.ref g37, V.ref g38, V.non, V.ref g43])) := Sta.lst z44 (by simp) N44
    clear q44 w44 N44 z44 e44
    refine ⟨_, rfl, _, _, _, rfl, by decide, by decide, S, fun d45 K45 a45 b45 S' B45 => ?_⟩
    replace tb := tb.but B45 S.lst
    replace tp := tp.but B45
    replace ts1 := ts1.but B45
    replace ts2 := ts2.but B45
    replace ts := ts.but B45
    replace tq := tq.but B45
    replace pp := pp.but B45
    replace ss := ss.but B45
    replace sq := sq.but B45
    replace h_np := h_np.but B45
    replace h_ns := h_ns.but B45
    replace h_nl := h_nl.but B45
    replace b33 := b33.but B45
    replace b36 := b36.but B45
    replace b37 := b37.but B45
    replace b38 := b38.but B45
    replace b43 := b43.but B45
    replace L_nr := L_nr.but B45
    replace F_nr := fun x hx => (F_nr x hx).but B45
    clear S B45
    have S := S'
    clear S'
    obtain ⟨nr, v45, m45⟩ := atAny (xs := [V.ref g33, V.ref g36, V.ref g37, V.ref g38, V.non, V.ref g43]) (i := d45) a45 b45
    refine ⟨_, _, _, _, rfl, rfl, SqL.of L_nr.here, v45, ?_⟩
    have h_nr := F_nr nr m45
    clear L_nr F_nr
    clear b33 b36 b37 b38 b43
    refine ⟨_, rfl, _, rfl, ?_⟩
    refine slA_of sq.here.t fun g46 K46 e46 N46 => ?_
    replace S := S.same e46
    replace tb := tb.same e46
    replace tp := tp.same e46
    replace ts1 := ts1.same e46
    replace ts2 := ts2.same e46
    replace ts := ts.same e46
    replace tq := tq.same e46
    replace pp := pp.same e46
    replace ss := ss.same e46
    replace sq := sq.same e46
    replace h_np := h_np.same e46
    replace h_ns := h_ns.same e46
    replace h_nl := h_nl.same e46
    replace h_nr := h_nr.same e46
    clear e46
    have c46 := Sta.tup (K := K) (M := []) S (fun D h => by cases h) N46
    have b46 : Sta [] s K46 (fun H => LnAt K H g46 [(g5, 0, 0), (g6, 4, 0)]) := fun H' q => (sq H' q).sub (fun z hz => by simp only [List.mem_cons, List.not_mem_nil, or_false] at hz ⊢; rcases hz with rfl | rfl <;> simp) (c46 H' q)
    clear c46
    refine ⟨_, rfl, _, _, rfl, .inr sq.here.t, fun g47 w47 => ?_⟩
    obtain ⟨K47, q47, e47, N47⟩ : ∃ H', H' = upd K46 g47 (HO.lst (refs [(g5, 0, 0), (g6, 4, 0), (g7, 4, 4), (g8, 0, 4)])) ∧ Same K46 H' ∧ H' g47 = some (HO.lst (refs [(g5, 0, 0), (g6, 4, 0), (g7, 4, 4), (g8, 0, 4)])) := ⟨_, rfl, same_new w47, upd_same⟩
    have z47 := S.new1 w47
    rw [← q47]
    replace S := S.same e47
    replace tb := tb.same e47
    replace tp := tp.same e47
    replace ts1 := ts1.same e47
    replace ts2 := ts2.same e47
    replace ts := ts.same e47
    replace tq := tq.same e47
    replace pp := pp.same e47
    replace ss := ss.same e47
    replace sq := sq.same e47
    replace h_np := h_np.same e47
    replace h_ns := h_ns.same e47
    replace h_nl := h_nl.same e47
    replace h_nr := h_nr.same e47
    replace b46 := b46.same e47
    have b47 : Sta [] s K47 (fun H => H g47 = some (HO.lst (refs [(g5, 0, 0), (g6, 4, 0), (g7, 4, 4), (g8, 0, 4)]))) := Sta.lst z47 (by simp) N47
    clear q47 w47 N47 z47 e47
    refine ⟨_, rfl, _, rfl, small rfl, fun g48 w48 => ?_⟩
    obtain ⟨K48, q48, e48, N48⟩ : ∃ H', H' = upd K47 g48 (HO.tup [np]) ∧ Same K47 H' ∧ H' g48 = some (HO.tup [np]) := ⟨_, rfl, same_new w48, upd_same⟩
    have z48 := S.new1 w48
    rw [← q48]
    replace S := S.same e48
    replace tb := tb.same e48
    replace tp := tp.same e48
    replace ts1 := ts1.same e48
    replace ts2 := ts2.same e48
    replace ts := ts.same e48
    replace tq := tq.same e48
    replace pp := pp.same e48
    replace ss := ss.same e48
    replace sq := sq.same e48
    replace h_np := h_np.same e48
    replace h_ns := h_ns.same e48
    replace h_nl := h_nl.same e48
    replace h_nr := h_nr.same e48
    replace b46 := b46.same e48
    replace b47 := b47.same e48
    have c48 := Sta.tup (K := K) (M := []) S (fun D h => by cases h) (SqT.of N48)
    clear q48 w48 N48 z48 e48
    refine catA_of sq.here.t c48.here (small rfl) fun g49 K49 e49 N49 => ?_
    replace S := S.same e49
    replace tb := tb.same e49
    replace tp := tp.same e49
    replace ts1 := ts1.same e49
    replace ts2 := ts2.same e49
    replace ts := ts.same e49
    replace tq := tq.same e49
    replace pp := pp.same e49
    replace ss := ss.same e49
    replace sq := sq.same e49
    replace h_np := h_np.same e49
    replace h_ns := h_ns.same e49
    replace h_nl := h_nl.same e49
    replace h_nr := h_nr.same e49
    replace b46 := b46.same e49
    replace b47 := b47.same e49
    replace c48 := c48.same e49
    clear e49
    have b49 := Sta.tup (K := K) (M := []) S (fun D h => by cases h) N49
    clear c48
    refine ⟨small rfl, fun g50 w50 => ?_⟩
    obtain ⟨K50, q50, e50, N50⟩ : ∃ H', H' = upd K49 g50 (HO.tup [.int (0), .int (0)]) ∧ Same K49 H' ∧ H' g50 = some (HO.tup [.int (0), .int (0)]) := ⟨_, rfl, same_new w50, upd_same⟩
    have z50 := S.new1 w50
    rw [← q50]
    replace S := S.same e50
    replace tb := tb.same e50
    replace tp := tp.same e50
    replace ts1 := ts1.same e50
    replace ts2 := ts2.same e50
    replace ts := ts.same e50
    replace tq := tq.same e50
    replace pp := pp.same e50
    replace ss := ss.same e50
    replace sq := sq.same e50
    replace h_np := h_np.same e50
    replace h_ns := h_ns.same e50
    replace h_nl := h_nl.same e50
    replace h_nr := h_nr.same e50
    replace b46 := b46.same e50
    replace b47 := b47.same e50
    replace b49 := b49.same e50
    have c50 := Sta.tup (K := K) (M := []) S (fun D h => by cases h) (SqT.of N50)
    clear q50 w50 N50 z50 e50
    refine ⟨small rfl, fun g51 w51 => ?_⟩
    obtain ⟨K51, q51, e51, N51⟩ : ∃ H', H' = upd K50 g51 (HO.tup [.ref g50]) ∧ Same K50 H' ∧ H' g51 = some (HO.tup [.ref g50]) := ⟨_, rfl, same_new w51, upd_same⟩
    have z51 := S.new1 w51
    rw [← q51]
    replace S := S.same e51
    replace tb := tb.same e51
    replace tp := tp.same e51
    replace ts1 := ts1.same e51
    replace ts2 := ts2.same e51
    replace ts := ts.same e51
    replace tq := tq.same e51
    replace pp := pp.same e51
    replace ss := ss.same e51
    replace sq := sq.same e51
    replace h_np := h_np.same e51
    replace h_ns := h_ns.same e51
    replace h_nl := h_nl.same e51
    replace h_nr := h_nr.same e51
    replace b46 := b46.same e51
    replace b47 := b47.same e51
    replace b49 := b49.same e51
    replace c50 := c50.same e51
    have c51 := Sta.tup (K := K) (M := []) S (fun D h => by cases h) (SqT.of N51)
    clear q51 w51 N51 z51 e51
    refine ⟨_, _, _, rfl, rfl, c51.here, (by simp), by decide, by decide, (by simp), fun g52 w52 => ?_⟩
    obtain ⟨K52, q52, e52, N52⟩ : ∃ H', H' = upd K51 g52 (HO.tup (List.replicate (Int.toNat 41) [V.ref g50]).flatten) ∧ Same K51 H' ∧ H' g52 = some (HO.tup (List.replicate (Int.toNat 41) [V.ref g50]).flatten) := ⟨_, rfl, same_new w52, upd_same⟩
    have z52 := S.new1 w52
    rw [← q52]
    replace S := S.same e52
    replace tb := tb.same e52
    replace tp := tp.same e52
    replace ts1 := ts1.same e52
    replace ts2 := ts2.same e52
    replace ts := ts.same e52
    replace tq := tq.same e52
    replace pp := pp.same e52
    replace ss := ss.same e52
    replace sq := sq.same e52
    replace h_np := h_np.same e52
    replace h_ns := h_ns.same e52
    replace h_nl := h_nl.same e52
    replace h_nr := h_nr.same e52
    replace b46 := b46.same e52
    replace b47 := b47.same e52
    replace b49 := b49.same e52
    replace c50 := c50.same e52
    replace c51 := c51.same e52
    have c52 := Sta.tup (K := K) (M := []) S (fun D h => by cases h) (SqT.of N52)
    clear q52 w52 N52 z52 e52
    have b52 : Sta [] s K52 (fun H => LnAt K H g52 (List.replicate 41 ((g50, 0, 0) : Zp))) := fun H' q => ⟨by rw [one_rep]; exact c52 H' q, fun z hz => by rw [List.eq_of_mem_replicate hz]; exact c50 H' q, fun z hz => by rw [List.eq_of_mem_replicate hz]; show On 0 0; unfold On; omega⟩
    clear c50 c51 c52
    have F_fw : ∀ x ∈ [V.ref g46, V.ref g47, V.non, V.ref g49, V.ref g52], Sta [] s K52 (fun H => AV K 3 40 H x false) := by
      intro x hx
      simp only [List.mem_cons, List.not_mem_nil, or_false] at hx
      rcases hx with rfl | rfl | rfl | rfl | rfl
      · exact b46.map fun H h => AV.ln h (by show 2 ≤ 1000; decide) rfl
      · exact b47.map fun H h => AV.no (.lst (SqL.of h)) (by decide)
      · exact Sta.of fun H => AV.no .non (by decide)
      · exact fun H' q => AV.bad (us := [(g5, 0, 0), (g6, 4, 0), (g7, 4, 4), (g8, 0, 4)]) (ws := []) (b49 H' q) (sq H' q).p (sq H' q).on Pts.nil (fun z hz => by cases hz) (h_np H' q) (by show 4 + 0 ≤ 900; decide)
      · exact b52.map fun H h => AV.ln h (by rw [List.length_replicate]; decide) (by rw [List.length_replicate]; rfl)
    refine ⟨small rfl, fun g53 w53 => ?_⟩
    obtain ⟨K53, q53, e53, N53⟩ : ∃ H', H' = upd K52 g53 (HO.lst [V.ref g46, V.ref g47, V.non, V.ref g49, V.ref g52]) ∧ Same K52 H' ∧ H' g53 = some (HO.lst [V.ref g46, V.ref g47, V.non, V.ref g49, V.ref g52]) := ⟨_, rfl, same_new w53, upd_same⟩
    have z53 := S.new1 w53
    rw [← q53]
    replace S := S.same e53
    replace tb := tb.same e53
    replace tp := tp.same e53
    replace ts1 := ts1.same e53
    replace ts2 := ts2.same e53
    replace ts := ts.same e53
    replace tq := tq.same e53
    replace pp := pp.same e53
    replace ss := ss.same e53
    replace sq := sq.same e53
    replace h_np := h_np.same e53
    replace h_ns := h_ns.same e53
    replace h_nl := h_nl.same e53
    replace h_nr := h_nr.same e53
    replace b46 := b46.same e53
    replace b47 := b47.same e53
    replace b49 := b49.same e53
    replace b52 := b52.same e53
    replace F_fw := fun x hx => (F_fw x hx).same e53
    have L_fw : Sta [] s K53 (fun H => H g53 = some (HO.lst [V.ref g46, V.ref g47, V.non, V.ref g49, V.ref g52])) := Sta.lst z53 (by simp) N53
    clear q53 w53 N53 z53 e53
    refine ⟨_, rfl, _, _, _, rfl, by decide, by decide, S, fun d54 K54 a54 b54 S' B54 => ?_⟩
    replace tb := tb.but B54 S.lst
    replace tp := tp.but B54
    replace ts1 := ts1.but B54
    replace ts2 := ts2.but B54
    replace ts := ts.but B54
    replace tq := tq.but B54
    replace pp := pp.but B54
    replace ss := ss.but B54
    replace sq := sq.but B54
    replace h_np := h_np.but B54
    replace h_ns := h_ns.but B54
    replace h_nl := h_nl.but B54
    replace h_nr := h_nr.but B54
    replace b46 := b46.but B54
    replace b47 := b47.but B54
    replace b49 := b49.but B54
    replace b52 := b52.but B54
    replace L_fw := L_fw.but B54
    replace F_fw := fun x hx => (F_fw x hx).but B54
    clear S B54
    have S := S'
    clear S'
    obtain ⟨fw, v54, m54⟩ := atAny (xs := [V.ref g46, V.ref g47, V.non, V.ref g49, V.ref g52]) (i := d54) a54 b54
    refine ⟨_, _, _, _, rfl, rfl, SqL.of L_fw.here, v54, ?_⟩
    have h_fw := F_fw fw m54
    clear L_fw F_fw
    clear b46 b47 b49 b52
    refine ⟨_, rfl, ?_⟩
    refine ⟨small rfl, fun g55 w55 => ?_⟩
    obtain ⟨K55, q55, e55, N55⟩ : ∃ H', H' = upd K54 g55 (HO.tup [.int (0), .int (0)]) ∧ Same K54 H' ∧ H' g55 = some (HO.tup [.int (0), .int (0)]) := ⟨_, rfl, same_new w55, upd_same⟩
    have z55 := S.new1 w55
    rw [← q55]
    replace S := S.same e55
    replace tb := tb.same e55
    replace tp := tp.same e55
    replace ts1 := ts1.same e55
    replace ts2 := ts2.same e55
    replace ts := ts.same e55
    replace tq := tq.same e55
    replace pp := pp.same e55
    replace ss := ss.same e55
    replace sq := sq.same e55
    replace h_np := h_np.same e55
    replace h_ns := h_ns.same e55
    replace h_nl := h_nl.same e55
    replace h_nr := h_nr.same e55
    replace h_fw := h_fw.same e55
    have c55 := Sta.tup (K := K) (M := []) S (fun D h => by cases h) (SqT.of N55)
    clear q55 w55 N55 z55 e55
    refine ⟨small rfl, fun g56 w56 => ?_⟩
    obtain ⟨K56, q56, e56, N56⟩ : ∃ H', H' = upd K55 g56 (HO.tup [.int (4), .int (4)]) ∧ Same K55 H' ∧ H' g56 = some (HO.tup [.int (4), .int (4)]) := ⟨_, rfl, same_new w56, upd_same⟩
    have z56 := S.new1 w56
    rw [← q56]
    replace S := S.same e56
    replace tb := tb.same e56
    replace tp := tp.same e56
    replace ts1 := ts1.same e56
    replace ts2 := ts2.same e56
    replace ts := ts.same e56
    replace tq := tq.same e56
    replace pp := pp.same e56
    replace ss := ss.same e56
    replace sq := sq.same e56
    replace h_np := h_np.same e56
    replace h_ns := h_ns.same e56
    replace h_nl := h_nl.same e56
    replace h_nr := h_nr.same e56
    replace h_fw := h_fw.same e56
    replace c55 := c55.same e56
    have c56 := Sta.tup (K := K) (M := []) S (fun D h => by cases h) (SqT.of N56)
    clear q56 w56 N56 z56 e56
    refine ⟨small rfl, fun g57 w57 => ?_⟩
    obtain ⟨K57, q57, e57, N57⟩ : ∃ H', H' = upd K56 g57 (HO.tup [.int (4), .int (0)]) ∧ Same K56 H' ∧ H' g57 = some (HO.tup [.int (4), .int (0)]) := ⟨_, rfl, same_new w57, upd_same⟩
    have z57 := S.new1 w57
    rw [← q57]
    replace S := S.same e57
    replace tb := tb.same e57
    replace tp := tp.same e57
    replace ts1 := ts1.same e57
    replace ts2 := ts2.same e57
    replace ts := ts.same e57
    replace tq := tq.same e57
    replace pp := pp.same e57
    replace ss := ss.same e57
    replace sq := sq.same e57
    replace h_np := h_np.same e57
    replace h_ns := h_ns.same e57
    replace h_nl := h_nl.same e57
    replace h_nr := h_nr.same e57
    replace h_fw := h_fw.same e57
    replace c55 := c55.same e57
    replace c56 := c56.same e57
    have c57 := Sta.tup (K := K) (M := []) S (fun D h => by cases h) (SqT.of N57)
    clear q57 w57 N57 z57 e57
    refine ⟨small rfl, fun g58 w58 => ?_⟩
    obtain ⟨K58, q58, e58, N58⟩ : ∃ H', H' = upd K57 g58 (HO.tup [.int (0), .int (4)]) ∧ Same K57 H' ∧ H' g58 = some (HO.tup [.int (0), .int (4)]) := ⟨_, rfl, same_new w58, upd_same⟩
    have z58 := S.new1 w58
    rw [← q58]
    replace S := S.same e58
    replace tb := tb.same e58
    replace tp := tp.same e58
    replace ts1 := ts1.same e58
    replace ts2 := ts2.same e58
    replace ts := ts.same e58
    replace tq := tq.same e58
    replace pp := pp.same e58
    replace ss := ss.same e58
    replace sq := sq.same e58
    replace h_np := h_np.same e58
    replace h_ns := h_ns.same e58
    replace h_nl := h_nl.same e58
    replace h_nr := h_nr.same e58
    replace h_fw := h_fw.same e58
    replace c55 := c55.same e58
    replace c56 := c56.same e58
    replace c57 := c57.same e58
    have c58 := Sta.tup (K := K) (M := []) S (fun D h => by cases h) (SqT.of N58)
    clear q58 w58 N58 z58 e58
    refine ⟨small rfl, fun g59 w59 => ?_⟩
    obtain ⟨K59, q59, e59, N59⟩ : ∃ H', H' = upd K58 g59 (HO.tup [.ref g55, .ref g56, .ref g57, .ref g58]) ∧ Same K58 H' ∧ H' g59 = some (HO.tup [.ref g55, .ref g56, .ref g57, .ref g58]) := ⟨_, rfl, same_new w59, upd_same⟩
    have z59 := S.new1 w59
    rw [← q59]
    replace S := S.same e59
    replace tb := tb.same e59
    replace tp := tp.same e59
    replace ts1 := ts1.same e59
    replace ts2 := ts2.same e59
    replace ts := ts.same e59
    replace tq := tq.same e59
    replace pp := pp.same e59
    replace ss := ss.same e59
    replace sq := sq.same e59
    replace h_np := h_np.same e59
    replace h_ns := h_ns.same e59
    replace h_nl := h_nl.same e59
    replace h_nr := h_nr.same e59
    replace h_fw := h_fw.same e59
    replace c55 := c55.same e59
    replace c56 := c56.same e59
    replace c57 := c57.same e59
    replace c58 := c58.same e59
    have c59 := Sta.tup (K := K) (M := []) S (fun D h => by cases h) (SqT.of N59)
    clear q59 w59 N59 z59 e59
    have b59 : Sta [] s K59 (fun H => LnAt K H g59 [(g55, 0, 0), (g56, 4, 4), (g57, 4, 0), (g58, 0, 4)]) := fun H' q => ⟨c59 H' q, fun z hz => by
      simp only [List.mem_cons, List.not_mem_nil, or_false] at hz
      rcases hz with rfl | rfl | rfl | rfl
      · exact c55 H' q
      · exact c56 H' q
      · exact c57 H' q
      · exact c58 H' q, fun z hz => by
      simp only [List.mem_cons, List.not_mem_nil, or_false] at hz
      rcases hz with rfl | rfl | rfl | rfl <;> (unfold On; dsimp only; omega)⟩
    clear c55 c56 c57 c58 c59
    refine ⟨_, rfl, _, rfl, small rfl, fun g60 w60 => ?_⟩
    obtain ⟨K60, q60, e60, N60⟩ : ∃ H', H' = upd K59 g60 (HO.tup [.int (0), .int (0)]) ∧ Same K59 H' ∧ H' g60 = some (HO.tup [.int (0), .int (0)]) := ⟨_, rfl, same_new w60, upd_same⟩
    have z60 := S.new1 w60
    rw [← q60]
    replace S := S.same e60
    replace tb := tb.same e60
    replace tp := tp.same e60
    replace ts1 := ts1.same e60
    replace ts2 := ts2.same e60
    replace ts := ts.same e60
    replace tq := tq.same e60
    replace pp := pp.same e60
    replace ss := ss.same e60
    replace sq := sq.same e60
    replace h_np := h_np.same e60
    replace h_ns := h_ns.same e60
    replace h_nl := h_nl.same e60
    replace h_nr := h_nr.same e60
    replace h_fw := h_fw.same e60
    replace b59 := b59.same e60
    have c60 := Sta.tup (K := K) (M := []) S (fun D h => by cases h) (SqT.of N60)
    clear q60 w60 N60 z60 e60
    refine ⟨small rfl, fun g61 w61 => ?_⟩
    obtain ⟨K61, q61, e61, N61⟩ : ∃ H', H' = upd K60 g61 (HO.tup [.ref g1, .ref g1, .ref g60]) ∧ Same K60 H' ∧ H' g61 = some (HO.tup [.ref g1, .ref g1, .ref g60]) := ⟨_, rfl, same_new w61, upd_same⟩
    have z61 := S.new1 w61
    rw [← q61]
    replace S := S.same e61
    replace tb := tb.same e61
    replace tp := tp.same e61
    replace ts1 := ts1.same e61
    replace ts2 := ts2.same e61
    replace ts := ts.same e61
    replace tq := tq.same e61
    replace pp := pp.same e61
    replace ss := ss.same e61
    replace sq := sq.same e61
    replace h_np := h_np.same e61
    replace h_ns := h_ns.same e61
    replace h_nl := h_nl.same e61
    replace h_nr := h_nr.same e61
    replace h_fw := h_fw.same e61
    replace b59 := b59.same e61
    replace c60 := c60.same e61
    have c61 := Sta.tup (K := K) (M := []) S (fun D h => by cases h) (SqT.of N61)
    clear q61 w61 N61 z61 e61
    have b61 : Sta [] s K61 (fun H => LnAt K H g61 [(g1, -1000, 1000), (g1, -1000, 1000), (g60, 0, 0)]) := fun H' q => ⟨c61 H' q, fun z hz => by
      simp only [List.mem_cons, List.not_mem_nil, or_false] at hz
      rcases hz with rfl | rfl | rfl
      · exact tp H' q
      · exact tp H' q
      · exact c60 H' q, fun z hz => by
      simp only [List.mem_cons, List.not_mem_nil, or_false] at hz
      rcases hz with rfl | rfl | rfl <;> (unfold On; dsimp only; omega)⟩
    clear c60 c61
    refine ⟨small rfl, fun g62 w62 => ?_⟩
    obtain ⟨K62, q62, e62, N62⟩ : ∃ H', H' = upd K61 g62 (HO.tup [.int (0), .int (0)]) ∧ Same K61 H' ∧ H' g62 = some (HO.tup [.int (0), .int (0)]) := ⟨_, rfl, same_new w62, upd_same⟩
    have z62 := S.new1 w62
    rw [← q62]
    replace S := S.same e62
    replace tb := tb.same e62
    replace tp := tp.same e62
    replace ts1 := ts1.same e62
    replace ts2 := ts2.same e62
    replace ts := ts.same e62
    replace tq := tq.same e62
    replace pp := pp.same e62
    replace ss := ss.same e62
    replace sq := sq.same e62
    replace h_np := h_np.same e62
    replace h_ns := h_ns.same e62
    replace h_nl := h_nl.same e62
    replace h_nr := h_nr.same e62
    replace h_fw := h_fw.same e62
    replace b59 := b59.same e62
    replace b61 := b61.same e62
    have c62 := Sta.tup (K := K) (M := []) S (fun D h => by cases h) (SqT.of N62)
    clear q62 w62 N62 z62 e62
    refine ⟨small rfl, fun g63 w63 => ?_⟩
    obtain ⟨K63, q63, e63, N63⟩ : ∃ H', H' = upd K62 g63 (HO.tup [.int (2), .int (0)]) ∧ Same K62 H' ∧ H' g63 = some (HO.tup [.int (2), .int (0)]) := ⟨_, rfl, same_new w63, upd_same⟩
    have z63 := S.new1 w63
    rw [← q63]
    replace S := S.same e63
    replace tb := tb.same e63
    replace tp := tp.same e63
    replace ts1 := ts1.same e63
    replace ts2 := ts2.same e63
    replace ts := ts.same e63
    replace tq := tq.same e63
    replace pp := pp.same e63
    replace ss := ss.same e63
    replace sq := sq.same e63
    replace h_np := h_np.same e63
    replace h_ns := h_ns.same e63
    replace h_nl := h_nl.same e63
    replace h_nr := h_nr.same e63
    replace h_fw := h_fw.same e63
    replace b59 := b59.same e63
    replace b61 := b61.same e63
    replace c62 := c62.same e63
    have c63 := Sta.tup (K := K) (M := []) S (fun D h => by cases h) (SqT.of N63)
    clear q63 w63 N63 z63 e63
    refine ⟨small rfl, fun g64 w64 => ?_⟩
    obtain ⟨K64, q64, e64, N64⟩ : ∃ H', H' = upd K63 g64 (HO.tup [.int (4), .int (0)]) ∧ Same K63 H' ∧ H' g64 = some (HO.tup [.int (4), .int (0)]) := ⟨_, rfl, same_new w64, upd_same⟩
    have z64 := S.new1 w64
    rw [← q64]
    replace S := S.same e64
    replace tb := tb.same e64
    replace tp := tp.same e64
    replace ts1 := ts1.same e64
    replace ts2 := ts2.same e64
    replace ts := ts.same e64
    replace tq := tq.same e64
    replace pp := pp.same e64
    replace ss := ss.same e64
    replace sq := sq.same e64
    replace h_np := h_np.same e64
    replace h_ns := h_ns.same e64
    replace h_nl := h_nl.same e64
    replace h_nr := h_nr.same e64
    replace h_fw := h_fw.same e64
    replace b59 := b59.same e64
    replace b61 := b61.same e64
    replace c62 := c62.same e64
    replace c63 := c63.same e64
    have c64 := Sta.tup (K := K) (M := []) S (fun D h => by cases h) (SqT.of N64)
    clear q64 w64 N64 z64 e64
    refine ⟨small rfl, fun g65 w65 => ?_⟩
    obtain ⟨K65, q65, e65, N65⟩ : ∃ H', H' = upd K64 g65 (HO.tup [.ref g62, .ref g63, .ref g64]) ∧ Same K64 H' ∧ H' g65 = some (HO.tup [.ref g62, .ref g63, .ref g64]) := ⟨_, rfl, same_new w65, upd_same⟩
    have z65 := S.new1 w65
    rw [← q65]
    replace S := S.same e65
    replace tb := tb.same e65
    replace tp := tp.same e65
    replace ts1 := ts1.same e65
    replace ts2 := ts2.same e65
    replace ts := ts.same e65
    replace tq := tq.same e65
    replace pp := pp.same e65
    replace ss := ss.same e65
    replace sq := sq.same e65
    replace h_np := h_np.same e65
    replace h_ns := h_ns.same e65
    replace h_nl := h_nl.same e65
    replace h_nr := h_nr.same e65
    replace h_fw := h_fw.same e65
    replace b59 := b59.same e65
    replace b61 := b61.same e65
    replace c62 := c62.same e65
    replace c63 := c63.same e65
    replace c64 := c64.same e65
    have c65 := Sta.tup (K := K) (M := []) S (fun D h => by cases h) (SqT.of N65)
    clear q65 w65 N65 z65 e65
    have b65 : Sta [] s K65 (fun H => LnAt K H g65 [(g62, 0, 0), (g63, 2, 0), (g64, 4, 0)]) := fun H' q => ⟨c65 H' q, fun z hz => by
      simp only [List.mem_cons, List.not_mem_nil, or_false] at hz
      rcases hz with rfl | rfl | rfl
      · exact c62 H' q
      · exact c63 H' q
      · exact c64 H' q, fun z hz => by
      simp only [List.mem_cons, List.not_mem_nil, or_false] at hz
      rcases hz with rfl | rfl | rfl <;> (unfold On; dsimp only; omega)⟩
    clear c62 c63 c64 c65
    have F_cr : ∀ x ∈ [fw, V.ref g59, V.ref g61, V.ref g65], Sta [] s K65 (fun H => GaV K H x false) := by
      intro x hx
      simp only [List.mem_cons, List.not_mem_nil, or_false] at hx
      rcases hx with rfl | rfl | rfl | rfl
      · exact h_fw.map fun H h => .inr ⟨h, rfl⟩
      · exact b59.map fun H h => .inl ⟨_, _, rfl, (fun z => by cases z), h, (by show 4 ≤ 1000; decide), ⟨(fun z => by cases z), fun R => (bow_no R.2.2).elim⟩⟩
      · exact b61.map fun H h => .inl ⟨_, _, rfl, (fun z => by cases z), h, (by show 3 ≤ 1000; decide), ⟨(fun z => by cases z), fun R => (twice_no R.2.2).elim⟩⟩
      · exact b65.map fun H h => .inl ⟨_, _, rfl, (fun z => by cases z), h, (by show 3 ≤ 1000; decide), ⟨(fun z => by cases z), fun R => (flat_no R.2.2).elim⟩⟩
    refine ⟨small rfl, fun g66 w66 => ?_⟩
    obtain ⟨K66, q66, e66, N66⟩ : ∃ H', H' = upd K65 g66 (HO.lst [fw, V.ref g59, V.ref g61, V.ref g65]) ∧ Same K65 H' ∧ H' g66 = some (HO.lst [fw, V.ref g59, V.ref g61, V.ref g65]) := ⟨_, rfl, same_new w66, upd_same⟩
    have z66 := S.new1 w66
    rw [← q66]
    replace S := S.same e66
    replace tb := tb.same e66
    replace tp := tp.same e66
    replace ts1 := ts1.same e66
    replace ts2 := ts2.same e66
    replace ts := ts.same e66
    replace tq := tq.same e66
    replace pp := pp.same e66
    replace ss := ss.same e66
    replace sq := sq.same e66
    replace h_np := h_np.same e66
    replace h_ns := h_ns.same e66
    replace h_nl := h_nl.same e66
    replace h_nr := h_nr.same e66
    replace h_fw := h_fw.same e66
    replace b59 := b59.same e66
    replace b61 := b61.same e66
    replace b65 := b65.same e66
    replace F_cr := fun x hx => (F_cr x hx).same e66
    have L_cr : Sta [] s K66 (fun H => H g66 = some (HO.lst [fw, V.ref g59, V.ref g61, V.ref g65])) := Sta.lst z66 (by simp) N66
    clear q66 w66 N66 z66 e66
    refine ⟨_, rfl, _, _, _, rfl, by decide, by decide, S, fun d67 K67 a67 b67 S' B67 => ?_⟩
    replace tb := tb.but B67 S.lst
    replace tp := tp.but B67
    replace ts1 := ts1.but B67
    replace ts2 := ts2.but B67
    replace ts := ts.but B67
    replace tq := tq.but B67
    replace pp := pp.but B67
    replace ss := ss.but B67
    replace sq := sq.but B67
    replace h_np := h_np.but B67
    replace h_ns := h_ns.but B67
    replace h_nl := h_nl.but B67
    replace h_nr := h_nr.but B67
    replace h_fw := h_fw.but B67
    replace b59 := b59.but B67
    replace b61 := b61.but B67
    replace b65 := b65.but B67
    replace L_cr := L_cr.but B67
    replace F_cr := fun x hx => (F_cr x hx).but B67
    clear S B67
    have S := S'
    clear S'
    obtain ⟨cr, v67, m67⟩ := atAny (xs := [fw, V.ref g59, V.ref g61, V.ref g65]) (i := d67) a67 b67
    refine ⟨_, _, _, _, rfl, rfl, SqL.of L_cr.here, v67, ?_⟩
    have h_cr := F_cr cr m67
    clear L_cr F_cr
    clear b59 b61 b65
    refine ⟨small rfl, fun g68 w68 => ?_⟩
    obtain ⟨K68, q68, e68, N68⟩ : ∃ H', H' = upd K67 g68 (HO.tup []) ∧ Same K67 H' ∧ H' g68 = some (HO.tup []) := ⟨_, rfl, same_new w68, upd_same⟩
    have z68 := S.new1 w68
    rw [← q68]
    replace S := S.same e68
    replace tb := tb.same e68
    replace tp := tp.same e68
    replace ts1 := ts1.same e68
    replace ts2 := ts2.same e68
    replace ts := ts.same e68
    replace tq := tq.same e68
    replace pp := pp.same e68
    replace ss := ss.same e68
    replace sq := sq.same e68
    replace h_np := h_np.same e68
    replace h_ns := h_ns.same e68
    replace h_nl := h_nl.same e68
    replace h_nr := h_nr.same e68
    replace h_fw := h_fw.same e68
    replace h_cr := h_cr.same e68
    have c68 := Sta.tup (K := K) (M := []) S (fun D h => by cases h) (SqT.of N68)
    clear q68 w68 N68 z68 e68
    have b68 : Sta [] s K68 (fun H => LnAt K H g68 []) := fun H' q => ⟨c68 H' q, fun z hz => (by cases hz), fun z hz => (by cases hz)⟩
    clear c68
    refine ⟨small rfl, fun g69 w69 => ?_⟩
    obtain ⟨K69, q69, e69, N69⟩ : ∃ H', H' = upd K68 g69 (HO.tup [.int (0), .int (0)]) ∧ Same K68 H' ∧ H' g69 = some (HO.tup [.int (0), .int (0)]) := ⟨_, rfl, same_new w69, upd_same⟩
    have z69 := S.new1 w69
    rw [← q69]
    replace S := S.same e69
    replace tb := tb.same e69
    replace tp := tp.same e69
    replace ts1 := ts1.same e69
    replace ts2 := ts2.same e69
    replace ts := ts.same e69
    replace tq := tq.same e69
    replace pp := pp.same e69
    replace ss := ss.same e69
    replace sq := sq.same e69
    replace h_np := h_np.same e69
    replace h_ns := h_ns.same e69
    replace h_nl := h_nl.same e69
    replace h_nr := h_nr.same e69
    replace h_fw := h_fw.same e69
    replace h_cr := h_cr.same e69
    replace b68 := b68.same e69
    have c69 := Sta.tup (K := K) (M := []) S (fun D h => by cases h) (SqT.of N69)
    clear q69 w69 N69 z69 e69
    refine ⟨small rfl, fun g70 w70 => ?_⟩
    obtain ⟨K70, q70, e70, N70⟩ : ∃ H', H' = upd K69 g70 (HO.tup [.ref g69]) ∧ Same K69 H' ∧ H' g70 = some (HO.tup [.ref g69]) := ⟨_, rfl, same_new w70, upd_same⟩
    have z70 := S.new1 w70
    rw [← q70]
    replace S := S.same e70
    replace tb := tb.same e70
    replace tp := tp.same e70
    replace ts1 := ts1.same e70
    replace ts2 := ts2.same e70
    replace ts := ts.same e70
    replace tq := tq.same e70
    replace pp := pp.same e70
    replace ss := ss.same e70
    replace sq := sq.same e70
    replace h_np := h_np.same e70
    replace h_ns := h_ns.same e70
    replace h_nl := h_nl.same e70
    replace h_nr := h_nr.same e70
    replace h_fw := h_fw.same e70
    replace h_cr := h_cr.same e70
    replace b68 := b68.same e70
    replace c69 := c69.same e70
    have c70 := Sta.tup (K := K) (M := []) S (fun D h => by cases h) (SqT.of N70)
    clear q70 w70 N70 z70 e70
    refine ⟨_, _, _, rfl, rfl, c70.here, (by simp), by decide, by decide, (by simp), fun g71 w71 => ?_⟩
    obtain ⟨K71, q71, e71, N71⟩ : ∃ H', H' = upd K70 g71 (HO.tup (List.replicate (Int.toNat 61) [V.ref g69]).flatten) ∧ Same K70 H' ∧ H' g71 = some (HO.tup (List.replicate (Int.toNat 61) [V.ref g69]).flatten) := ⟨_, rfl, same_new w71, upd_same⟩
    have z71 := S.new1 w71
    rw [← q71]
    replace S := S.same e71
    replace tb := tb.same e71
    replace tp := tp.same e71
    replace ts1 := ts1.same e71
    replace ts2 := ts2.same e71
    replace ts := ts.same e71
    replace tq := tq.same e71
    replace pp := pp.same e71
    replace ss := ss.same e71
    replace sq := sq.same e71
    replace h_np := h_np.same e71
    replace h_ns := h_ns.same e71
    replace h_nl := h_nl.same e71
    replace h_nr := h_nr.same e71
    replace h_fw := h_fw.same e71
    replace h_cr := h_cr.same e71
    replace b68 := b68.same e71
    replace c69 := c69.same e71
    replace c70 := c70.same e71
    have c71 := Sta.tup (K := K) (M := []) S (fun D h => by cases h) (SqT.of N71)
    clear q71 w71 N71 z71 e71
    have b71 : Sta [] s K71 (fun H => LnAt K H g71 (List.replicate 61 ((g69, 0, 0) : Zp))) := fun H' q => ⟨by rw [one_rep]; exact c71 H' q, fun z hz => by rw [List.eq_of_mem_replicate hz]; exact c69 H' q, fun z hz => by rw [List.eq_of_mem_replicate hz]; show On 0 0; unfold On; omega⟩
    clear c69 c70 c71
    refine ⟨_, rfl, _, _, rfl, .inr sq.here.t, fun g72 w72 => ?_⟩
    obtain ⟨K72, q72, e72, N72⟩ : ∃ H', H' = upd K71 g72 (HO.lst (refs [(g5, 0, 0), (g6, 4, 0), (g7, 4, 4), (g8, 0, 4)])) ∧ Same K71 H' ∧ H' g72 = some (HO.lst (refs [(g5, 0, 0), (g6, 4, 0), (g7, 4, 4), (g8, 0, 4)])) := ⟨_, rfl, same_new w72, upd_same⟩
    have z72 := S.new1 w72
    rw [← q72]
    replace S := S.same e72
    replace tb := tb.same e72
    replace tp := tp.same e72
    replace ts1 := ts1.same e72
    replace ts2 := ts2.same e72
    replace ts := ts.same e72
    replace tq := tq.same e72
    replace pp := pp.same e72
    replace ss := ss.same e72
    replace sq := sq.same e72
    replace h_np := h_np.same e72
    replace h_ns := h_ns.same e72
    replace h_nl := h_nl.same e72
    replace h_nr := h_nr.same e72
    replace h_fw := h_fw.same e72
    replace h_cr := h_cr.same e72
    replace b68 := b68.same e72
    replace b71 := b71.same e72
    have b72 : Sta [] s K72 (fun H => H g72 = some (HO.lst (refs [(g5, 0, 0), (g6, 4, 0), (g7, 4, 4), (g8, 0, 4)]))) := Sta.lst z72 (by simp) N72
    clear q72 w72 N72 z72 e72
    refine ⟨_, rfl, small rfl, fun g73 w73 => ?_⟩
    obtain ⟨K73, q73, e73, N73⟩ : ∃ H', H' = upd K72 g73 (HO.tup [np]) ∧ Same K72 H' ∧ H' g73 = some (HO.tup [np]) := ⟨_, rfl, same_new w73, upd_same⟩
    have z73 := S.new1 w73
    rw [← q73]
    replace S := S.same e73
    replace tb := tb.same e73
    replace tp := tp.same e73
    replace ts1 := ts1.same e73
    replace ts2 := ts2.same e73
    replace ts := ts.same e73
    replace tq := tq.same e73
    replace pp := pp.same e73
    replace ss := ss.same e73
    replace sq := sq.same e73
    replace h_np := h_np.same e73
    replace h_ns := h_ns.same e73
    replace h_nl := h_nl.same e73
    replace h_nr := h_nr.same e73
    replace h_fw := h_fw.same e73
    replace h_cr := h_cr.same e73
    replace b68 := b68.same e73
    replace b71 := b71.same e73
    replace b72 := b72.same e73
    have b73 := Sta.tup (K := K) (M := []) S (fun D h => by cases h) (SqT.of N73)
    clear q73 w73 N73 z73 e73
    have F_mn : ∀ x ∈ [V.ref g68, V.ref g71, V.ref g72, V.non, V.ref g73], Sta [] s K73 (fun H => AV K 1 60 H x false) := by
      intro x hx
      simp only [List.mem_cons, List.not_mem_nil, or_false] at hx
      rcases hx with rfl | rfl | rfl | rfl | rfl
      · exact b68.map fun H h => AV.ln h (by decide) rfl
      · exact b71.map fun H h => AV.ln h (by rw [List.length_replicate]; decide) (by rw [List.length_replicate]; rfl)
      · exact b72.map fun H h => AV.no (.lst (SqL.of h)) (by decide)
      · exact Sta.of fun H => AV.no .non (by decide)
      · exact fun H' q => AV.bad (us := []) (ws := []) (b73 H' q) Pts.nil (fun z hz => by cases hz) Pts.nil (fun z hz => by cases hz) (h_np H' q) (by decide)
    refine ⟨small rfl, fun g74 w74 => ?_⟩
    obtain ⟨K74, q74, e74, N74⟩ : ∃ H', H' = upd K73 g74 (HO.lst [V.ref g68, V.ref g71, V.ref g72, V.non, V.ref g73]) ∧ Same K73 H' ∧ H' g74 = some (HO.lst [V.ref g68, V.ref g71, V.ref g72, V.non, V.ref g73]) := ⟨_, rfl, same_new w74, upd_same⟩
    have z74 := S.new1 w74
    rw [← q74]
    replace S := S.same e74
    replace tb := tb.same e74
    replace tp := tp.same e74
    replace ts1 := ts1.same e74
    replace ts2 := ts2.same e74
    replace ts := ts.same e74
    replace tq := tq.same e74
    replace pp := pp.same e74
    replace ss := ss.same e74
    replace sq := sq.same e74
    replace h_np := h_np.same e74
    replace h_ns := h_ns.same e74
    replace h_nl := h_nl.same e74
    replace h_nr := h_nr.same e74
    replace h_fw := h_fw.same e74
    replace h_cr := h_cr.same e74
    replace b68 := b68.same e74
    replace b71 := b71.same e74
    replace b72 := b72.same e74
    replace b73 := b73.same e74
    replace F_mn := fun x hx => (F_mn x hx).same e74
    have L_mn : Sta [] s K74 (fun H => H g74 = some (HO.lst [V.ref g68, V.ref g71, V.ref g72, V.non, V.ref g73])) := Sta.lst z74 (by simp) N74
    clear q74 w74 N74 z74 e74
    refine ⟨_, rfl, _, _, _, rfl, by decide, by decide, S, fun d75 K75 a75 b75 S' B75 => ?_⟩
    replace tb := tb.but B75 S.lst
    replace tp := tp.but B75
    replace ts1 := ts1.but B75
    replace ts2 := ts2.but B75
    replace ts := ts.but B75
    replace tq := tq.but B75
    replace pp := pp.but B75
    replace ss := ss.but B75
    replace sq := sq.but B75
    replace h_np := h_np.but B75
    replace h_ns := h_ns.but B75
    replace h_nl := h_nl.but B75
    replace h_nr := h_nr.but B75
    replace h_fw := h_fw.but B75
    replace h_cr := h_cr.but B75
    replace b68 := b68.but B75
    replace b71 := b71.but B75
    replace b72 := b72.but B75
    replace b73 := b73.but B75
    replace L_mn := L_mn.but B75
    replace F_mn := fun x hx => (F_mn x hx).but B75
    clear S B75
    have S := S'
    clear S'
    obtain ⟨mn, v75, m75⟩ := atAny (xs := [V.ref g68, V.ref g71, V.ref g72, V.non, V.ref g73]) (i := d75) a75 b75
    refine ⟨_, _, _, _, rfl, rfl, SqL.of L_mn.here, v75, ?_⟩
    have h_mn := F_mn mn m75
    clear L_mn F_mn
    clear b68 b71 b72 b73
    clear ts1 ts2 ts tq
    have hσ : List.set (List.set (List.set (List.set (List.set (List.set (List.set (List.set (List.set (List.set (L2.start N_law [V.ref w0]) 1 (some (V.ref s))) 2 (some (V.ref g1))) 3 (some (V.ref g4))) 4 (some (V.ref g9))) 5 (some (np))) 6 (some (ns))) 7 (some (nl))) 8 (some (nr))) 9 (some (fw))) 10 (some (cr)) = [some (V.ref w0), some (V.ref s), some (V.ref g1), some (V.ref g4), some (V.ref g9), some np, some ns, some nl, some nr, some fw, some cr, none, none, none, none, none, none, none, none] := rfl
    rw [hσ]
    clear hσ
    refine ⟨small rfl, fun g76 w76 => ?_⟩
    obtain ⟨K76, q76, e76, N76⟩ : ∃ H', H' = upd K75 g76 (HO.lst [.str "a", .str "b", .str "c"]) ∧ Same K75 H' ∧ H' g76 = some (HO.lst [.str "a", .str "b", .str "c"]) := ⟨_, rfl, same_new w76, upd_same⟩
    have z76 := S.new1 w76
    rw [← q76]
    replace S := S.same e76
    replace tb := tb.same e76
    replace tp := tp.same e76
    replace pp := pp.same e76
    replace ss := ss.same e76
    replace sq := sq.same e76
    replace h_np := h_np.same e76
    replace h_ns := h_ns.same e76
    replace h_nl := h_nl.same e76
    replace h_nr := h_nr.same e76
    replace h_fw := h_fw.same e76
    replace h_cr := h_cr.same e76
    replace h_mn := h_mn.same e76
    have nn : Sta [] s K76 (fun H => H g76 = some (HO.lst [.str "a", .str "b", .str "c"])) := Sta.lst z76 (by simp) N76
    clear q76 w76 N76 z76 e76
    refine ⟨_, rfl, _, rfl, small rfl, fun g77 w77 => ?_⟩
    obtain ⟨K77, q77, e77, N77⟩ : ∃ H', H' = upd K76 g77 (HO.tup [.int (0), .int (0)]) ∧ Same K76 H' ∧ H' g77 = some (HO.tup [.int (0), .int (0)]) := ⟨_, rfl, same_new w77, upd_same⟩
    have z77 := S.new1 w77
    rw [← q77]
    replace S := S.same e77
    replace tb := tb.same e77
    replace tp := tp.same e77
    replace pp := pp.same e77
    replace ss := ss.same e77
    replace sq := sq.same e77
    replace h_np := h_np.same e77
    replace h_ns := h_ns.same e77
    replace h_nl := h_nl.same e77
    replace h_nr := h_nr.same e77
    replace h_fw := h_fw.same e77
    replace h_cr := h_cr.same e77
    replace h_mn := h_mn.same e77
    replace nn := nn.same e77
    have zc := Sta.tup (K := K) (M := []) S (fun D h => by cases h) (SqT.of N77)
    clear q77 w77 N77 z77 e77
    have zz : Sta [] s K77 (fun H => PV K H (.ref g77) true) := zc.map fun H h => PV.pt h (show On 0 0 by unfold On; omega)
    clear zc
    refine ⟨small rfl, fun g78 w78 => ?_⟩
    obtain ⟨K78, q78, e78, N78⟩ : ∃ H', H' = upd K77 g78 (HO.lst [.ref g1, .ref g1, .ref g77]) ∧ Same K77 H' ∧ H' g78 = some (HO.lst [.ref g1, .ref g1, .ref g77]) := ⟨_, rfl, same_new w78, upd_same⟩
    have z78 := S.new1 w78
    rw [← q78]
    replace S := S.same e78
    replace tb := tb.same e78
    replace tp := tp.same e78
    replace pp := pp.same e78
    replace ss := ss.same e78
    replace sq := sq.same e78
    replace h_np := h_np.same e78
    replace h_ns := h_ns.same e78
    replace h_nl := h_nl.same e78
    replace h_nr := h_nr.same e78
    replace h_fw := h_fw.same e78
    replace h_cr := h_cr.same e78
    replace h_mn := h_mn.same e78
    replace nn := nn.same e78
    replace zz := zz.same e78
    have gg : Sta [] s K78 (fun H => H g78 = some (HO.lst [.ref g1, .ref g1, .ref g77])) := Sta.lst z78 (by simp) N78
    clear q78 w78 N78 z78 e78
    refine ⟨_, rfl, _, rfl, _, rfl, small rfl, fun g79 w79 => ?_⟩
    obtain ⟨K79, q79, e79, N79⟩ : ∃ H', H' = upd K78 g79 (HO.lst [np, np, np]) ∧ Same K78 H' ∧ H' g79 = some (HO.lst [np, np, np]) := ⟨_, rfl, same_new w79, upd_same⟩
    have z79 := S.new1 w79
    rw [← q79]
    replace S := S.same e79
    replace tb := tb.same e79
    replace tp := tp.same e79
    replace pp := pp.same e79
    replace ss := ss.same e79
    replace sq := sq.same e79
    replace h_np := h_np.same e79
    replace h_ns := h_ns.same e79
    replace h_nl := h_nl.same e79
    replace h_nr := h_nr.same e79
    replace h_fw := h_fw.same e79
    replace h_cr := h_cr.same e79
    replace h_mn := h_mn.same e79
    replace nn := nn.same e79
    replace zz := zz.same e79
    replace gg := gg.same e79
    have bb : Sta [] s K79 (fun H => H g79 = some (HO.lst [np, np, np])) := Sta.lst z79 (by simp) N79
    clear q79 w79 N79 z79 e79
    refine ⟨small rfl, fun g80 w80 => ?_⟩
    obtain ⟨K80, q80, e80, N80⟩ : ∃ H', H' = upd K79 g80 (HO.lst [.ref g76, .ref g78, .ref g79]) ∧ Same K79 H' ∧ H' g80 = some (HO.lst [.ref g76, .ref g78, .ref g79]) := ⟨_, rfl, same_new w80, upd_same⟩
    have z80 := S.new1 w80
    rw [← q80]
    replace S := S.same e80
    replace tb := tb.same e80
    replace tp := tp.same e80
    replace pp := pp.same e80
    replace ss := ss.same e80
    replace sq := sq.same e80
    replace h_np := h_np.same e80
    replace h_ns := h_ns.same e80
    replace h_nl := h_nl.same e80
    replace h_nr := h_nr.same e80
    replace h_fw := h_fw.same e80
    replace h_cr := h_cr.same e80
    replace h_mn := h_mn.same e80
    replace nn := nn.same e80
    replace zz := zz.same e80
    replace gg := gg.same e80
    replace bb := bb.same e80
    have rr : Sta [] s K80 (fun H => H g80 = some (HO.lst [.ref g76, .ref g78, .ref g79])) := Sta.lst z80 (by simp) N80
    clear q80 w80 N80 z80 e80
    have R80 : Sta [] s K80 (fun H => RowS K H 0 (.ref g80)) := fun H' q => row3 rfl rfl (rr H' q) (nn H' q) (gg H' q) (bb H' q) (pp H' q) (pp H' q) (zz H' q) (h_np H' q) (h_np H' q) (h_np H' q)
    clear rr nn gg bb
    clear zz
    refine ⟨small rfl, fun g81 w81 => ?_⟩
    obtain ⟨K81, q81, e81, N81⟩ : ∃ H', H' = upd K80 g81 (HO.lst [.ref g80]) ∧ Same K80 H' ∧ H' g81 = some (HO.lst [.ref g80]) := ⟨_, rfl, same_new w81, upd_same⟩
    have z81 := S.new1 w81
    rw [← q81]
    replace S := S.same e81
    replace tb := tb.same e81
    replace tp := tp.same e81
    replace pp := pp.same e81
    replace ss := ss.same e81
    replace sq := sq.same e81
    replace h_np := h_np.same e81
    replace h_ns := h_ns.same e81
    replace h_nl := h_nl.same e81
    replace h_nr := h_nr.same e81
    replace h_fw := h_fw.same e81
    replace h_cr := h_cr.same e81
    replace h_mn := h_mn.same e81
    replace R80 := R80.same e81
    have rows : Sta [] s K81 (fun H => H g81 = some (HO.lst [.ref g80])) := Sta.lst z81 (by simp) N81
    clear q81 w81 N81 z81 e81
    refine ⟨_, rfl, _, rfl, by decide, by decide, fun D1 hD1 => ?_⟩
    obtain ⟨KD1, qD1, eD1, hd_D1⟩ : ∃ H', H' = upd K81 D1 (HO.lst []) ∧ Same K81 H' ∧ H' D1 = some (HO.lst []) := ⟨_, rfl, same_new hD1, upd_same⟩
    have n1_D1 := S.new1 hD1
    have n2_D1 := S.new2 hD1
    rw [← qD1]
    replace tp := tp.ext hD1
    replace pp := pp.ext hD1
    replace ss := ss.ext hD1
    replace sq := sq.ext hD1
    replace h_np := h_np.ext hD1
    replace h_ns := h_ns.ext hD1
    replace h_nl := h_nl.ext hD1
    replace h_nr := h_nr.ext hD1
    replace h_fw := h_fw.ext hD1
    replace h_cr := h_cr.ext hD1
    replace h_mn := h_mn.ext hD1
    replace R80 := R80.ext hD1
    replace rows := rows.ext hD1
    replace S := S.same eD1
    replace tb := tb.same eD1
    replace tp := tp.same eD1
    replace pp := pp.same eD1
    replace ss := ss.same eD1
    replace sq := sq.same eD1
    replace h_np := h_np.same eD1
    replace h_ns := h_ns.same eD1
    replace h_nl := h_nl.same eD1
    replace h_nr := h_nr.same eD1
    replace h_fw := h_fw.same eD1
    replace h_cr := h_cr.same eD1
    replace h_mn := h_mn.same eD1
    replace R80 := R80.same eD1
    replace rows := rows.same eD1
    refine walk_any (walk_range (lo := 0) (n := 3)) (fun i H' => ∃ rs : List V, Strm H' s b ∧ Tbs T.ts H' ∧ ButM [D1] s KD1 H' ∧ H' D1 = some (.lst rs) ∧ rs.length = i ∧ (∀ x ∈ rs, Sta [D1] s H' (fun H => RowS K H 1 x))) ⟨[], S, tb, ButM.refl, hd_D1, rfl, (fun x hx => by cases hx)⟩ (fun i H' _ h => trivial) ?_ ?_
    · rintro i x H1 HB hi ⟨rs, S, tb, B, hd_D1, lr, F⟩ ⟨rfl, rfl⟩
      refine ⟨rfl, yesI ?_⟩
      refine iteT ?_
      replace tp := tp.butM B
      replace pp := pp.butM B
      replace ss := ss.butM B
      replace sq := sq.butM B
      replace h_np := h_np.butM B
      replace h_ns := h_ns.butM B
      replace h_nl := h_nl.butM B
      replace h_nr := h_nr.butM B
      replace h_fw := h_fw.butM B
      replace h_cr := h_cr.butM B
      replace h_mn := h_mn.butM B
      replace R80 := R80.butM B
      replace rows := rows.butM B
      refine ⟨small rfl, fun g82 w82 => ?_⟩
      obtain ⟨K82, q82, e82, N82⟩ : ∃ H', H' = upd HB g82 (HO.lst [.str "p", .str "segment"]) ∧ Same HB H' ∧ H' g82 = some (HO.lst [.str "p", .str "segment"]) := ⟨_, rfl, same_new w82, upd_same⟩
      have z82 := S.new1 w82
      have y82_D1 : g82 ≠ D1 := fun z => by rw [z, hd_D1] at w82; cases w82
      rw [← q82]
      replace S := S.same e82
      replace tb := tb.same e82
      replace hd_D1 := e82.get hd_D1
      replace tp := tp.same e82
      replace pp := pp.same e82
      replace ss := ss.same e82
      replace sq := sq.same e82
      replace h_np := h_np.same e82
      replace h_ns := h_ns.same e82
      replace h_nl := h_nl.same e82
      replace h_nr := h_nr.same e82
      replace h_fw := h_fw.same e82
      replace h_cr := h_cr.same e82
      replace h_mn := h_mn.same e82
      replace R80 := R80.same e82
      replace rows := rows.same e82
      replace B := B.same e82
      replace F := fun x hx => (F x hx).same e82
      have nn : Sta [D1] s K82 (fun H => H g82 = some (HO.lst [.str "p", .str "segment"])) := Sta.lst z82 (by simp only [List.mem_cons, List.not_mem_nil, or_false, not_or]; exact y82_D1) N82
      clear q82 w82 N82 z82 e82
      refine ⟨_, rfl, _, rfl, small rfl, fun g83 w83 => ?_⟩
      obtain ⟨K83, q83, e83, N83⟩ : ∃ H', H' = upd K82 g83 (HO.lst [.ref g1, .ref g4]) ∧ Same K82 H' ∧ H' g83 = some (HO.lst [.ref g1, .ref g4]) := ⟨_, rfl, same_new w83, upd_same⟩
      have z83 := S.new1 w83
      have y83_D1 : g83 ≠ D1 := fun z => by rw [z, hd_D1] at w83; cases w83
      rw [← q83]
      replace S := S.same e83
      replace tb := tb.same e83
      replace hd_D1 := e83.get hd_D1
      replace tp := tp.same e83
      replace pp := pp.same e83
      replace ss := ss.same e83
      replace sq := sq.same e83
      replace h_np := h_np.same e83
      replace h_ns := h_ns.same e83
      replace h_nl := h_nl.same e83
      replace h_nr := h_nr.same e83
      replace h_fw := h_fw.same e83
      replace h_cr := h_cr.same e83
      replace h_mn := h_mn.same e83
      replace R80 := R80.same e83
      replace rows := rows.same e83
      replace B := B.same e83
      replace nn := nn.same e83
      replace F := fun x hx => (F x hx).same e83
      have gg : Sta [D1] s K83 (fun H => H g83 = some (HO.lst [.ref g1, .ref g4])) := Sta.lst z83 (by simp only [List.mem_cons, List.not_mem_nil, or_false, not_or]; exact y83_D1) N83
      clear q83 w83 N83 z83 e83
      refine ⟨_, rfl, _, rfl, small rfl, fun g84 w84 => ?_⟩
      obtain ⟨K84, q84, e84, N84⟩ : ∃ H', H' = upd K83 g84 (HO.lst [np, ns]) ∧ Same K83 H' ∧ H' g84 = some (HO.lst [np, ns]) := ⟨_, rfl, same_new w84, upd_same⟩
      have z84 := S.new1 w84
      have y84_D1 : g84 ≠ D1 := fun z => by rw [z, hd_D1] at w84; cases w84
      rw [← q84]
      replace S := S.same e84
      replace tb := tb.same e84
      replace hd_D1 := e84.get hd_D1
      replace tp := tp.same e84
      replace pp := pp.same e84
      replace ss := ss.same e84
      replace sq := sq.same e84
      replace h_np := h_np.same e84
      replace h_ns := h_ns.same e84
      replace h_nl := h_nl.same e84
      replace h_nr := h_nr.same e84
      replace h_fw := h_fw.same e84
      replace h_cr := h_cr.same e84
      replace h_mn := h_mn.same e84
      replace R80 := R80.same e84
      replace rows := rows.same e84
      replace B := B.same e84
      replace nn := nn.same e84
      replace gg := gg.same e84
      replace F := fun x hx => (F x hx).same e84
      have bb : Sta [D1] s K84 (fun H => H g84 = some (HO.lst [np, ns])) := Sta.lst z84 (by simp only [List.mem_cons, List.not_mem_nil, or_false, not_or]; exact y84_D1) N84
      clear q84 w84 N84 z84 e84
      refine ⟨small rfl, fun g85 w85 => ?_⟩
      obtain ⟨K85, q85, e85, N85⟩ : ∃ H', H' = upd K84 g85 (HO.lst [.ref g82, .ref g83, .ref g84]) ∧ Same K84 H' ∧ H' g85 = some (HO.lst [.ref g82, .ref g83, .ref g84]) := ⟨_, rfl, same_new w85, upd_same⟩
      have z85 := S.new1 w85
      have y85_D1 : g85 ≠ D1 := fun z => by rw [z, hd_D1] at w85; cases w85
      rw [← q85]
      replace S := S.same e85
      replace tb := tb.same e85
      replace hd_D1 := e85.get hd_D1
      replace tp := tp.same e85
      replace pp := pp.same e85
      replace ss := ss.same e85
      replace sq := sq.same e85
      replace h_np := h_np.same e85
      replace h_ns := h_ns.same e85
      replace h_nl := h_nl.same e85
      replace h_nr := h_nr.same e85
      replace h_fw := h_fw.same e85
      replace h_cr := h_cr.same e85
      replace h_mn := h_mn.same e85
      replace R80 := R80.same e85
      replace rows := rows.same e85
      replace B := B.same e85
      replace nn := nn.same e85
      replace gg := gg.same e85
      replace bb := bb.same e85
      replace F := fun x hx => (F x hx).same e85
      have rr : Sta [D1] s K85 (fun H => H g85 = some (HO.lst [.ref g82, .ref g83, .ref g84])) := Sta.lst z85 (by simp only [List.mem_cons, List.not_mem_nil, or_false, not_or]; exact y85_D1) N85
      clear q85 w85 N85 z85 e85
      have R85 : Sta [D1] s K85 (fun H => RowS K H 1 (.ref g85)) := fun H' q => row2 rfl rfl (rr H' q) (nn H' q) (gg H' q) (bb H' q) (pp H' q) (ss H' q) (h_np H' q) (h_ns H' q)
      clear rr nn gg bb
      refine ⟨_, hd_D1, line_of (by omega), rs ++ [.ref g85], S.at n1_D1 n2_D1, tb.put ⟨_, hd_D1⟩, B.putE (D := D1) (by simp) rfl, upd_same, by rw [List.length_append, lr]; rfl, fun y hy => ?_⟩
      rcases List.mem_append.mp hy with hy | hy
      · exact (F y hy).put (by simp)
      · rw [List.mem_singleton] at hy; subst hy; exact R85.put (by simp)
    rintro HE ⟨rs, S, tb, B, hd_D1, lr, F⟩
    replace tp := tp.butM B
    replace pp := pp.butM B
    replace ss := ss.butM B
    replace sq := sq.butM B
    replace h_np := h_np.butM B
    replace h_ns := h_ns.butM B
    replace h_nl := h_nl.butM B
    replace h_nr := h_nr.butM B
    replace h_fw := h_fw.butM B
    replace h_cr := h_cr.butM B
    replace h_mn := h_mn.butM B
    replace R80 := R80.butM B
    replace rows := rows.butM B
    clear B
    obtain ⟨x1, x2, x3, rfl⟩ := three_of lr
    have h_x1 := F x1 (by simp)
    have h_x2 := F x2 (by simp)
    have h_x3 := F x3 (by simp)
    clear F
    refine ⟨_, _, _, _, rfl, rfl, rows.here, hd_D1, small rfl, fun M1 hM1 => ?_⟩
    obtain ⟨KM1, qM1, eM1, hd_M1⟩ : ∃ H', H' = upd HE M1 (HO.lst ([V.ref g80] ++ [x1, x2, x3])) ∧ Same HE H' ∧ H' M1 = some (HO.lst ([V.ref g80] ++ [x1, x2, x3])) := ⟨_, rfl, same_new hM1, upd_same⟩
    have n1_M1 := S.new1 hM1
    have n2_M1 := S.new2 hM1
    have ne_D1_M1 : M1 ≠ D1 := fun z => by rw [z, hd_D1] at hM1; cases hM1
    rw [← qM1]
    replace tp := tp.ext hM1
    replace pp := pp.ext hM1
    replace ss := ss.ext hM1
    replace sq := sq.ext hM1
    replace h_np := h_np.ext hM1
    replace h_ns := h_ns.ext hM1
    replace h_nl := h_nl.ext hM1
    replace h_nr := h_nr.ext hM1
    replace h_fw := h_fw.ext hM1
    replace h_cr := h_cr.ext hM1
    replace h_mn := h_mn.ext hM1
    replace R80 := R80.ext hM1
    replace rows := rows.ext hM1
    replace h_x1 := h_x1.ext hM1
    replace h_x2 := h_x2.ext hM1
    replace h_x3 := h_x3.ext hM1
    have hd_D1 := eM1.get hd_D1
    replace S := S.same eM1
    replace tb := tb.same eM1
    replace tp := tp.same eM1
    replace pp := pp.same eM1
    replace ss := ss.same eM1
    replace sq := sq.same eM1
    replace h_np := h_np.same eM1
    replace h_ns := h_ns.same eM1
    replace h_nl := h_nl.same eM1
    replace h_nr := h_nr.same eM1
    replace h_fw := h_fw.same eM1
    replace h_cr := h_cr.same eM1
    replace h_mn := h_mn.same eM1
    replace R80 := R80.same eM1
    replace rows := rows.same eM1
    replace h_x1 := h_x1.same eM1
    replace h_x2 := h_x2.same eM1
    replace h_x3 := h_x3.same eM1
    clear rows
    refine ⟨_, rfl, tyL hd_M1, ?_⟩
    refine ⟨small rfl, fun g86 w86 => ?_⟩
    obtain ⟨K86, q86, e86, N86⟩ : ∃ H', H' = upd KM1 g86 (HO.lst [.str "p", .str "line"]) ∧ Same KM1 H' ∧ H' g86 = some (HO.lst [.str "p", .str "line"]) := ⟨_, rfl, same_new w86, upd_same⟩
    have z86 := S.new1 w86
    have y86_M1 : g86 ≠ M1 := fun z => by rw [z, hd_M1] at w86; cases w86
    have y86_D1 : g86 ≠ D1 := fun z => by rw [z, hd_D1] at w86; cases w86
    rw [← q86]
    replace S := S.same e86
    replace tb := tb.same e86
    replace hd_M1 := e86.get hd_M1
    replace hd_D1 := e86.get hd_D1
    replace tp := tp.same e86
    replace pp := pp.same e86
    replace ss := ss.same e86
    replace sq := sq.same e86
    replace h_np := h_np.same e86
    replace h_ns := h_ns.same e86
    replace h_nl := h_nl.same e86
    replace h_nr := h_nr.same e86
    replace h_fw := h_fw.same e86
    replace h_cr := h_cr.same e86
    replace h_mn := h_mn.same e86
    replace R80 := R80.same e86
    replace h_x1 := h_x1.same e86
    replace h_x2 := h_x2.same e86
    replace h_x3 := h_x3.same e86
    have nn : Sta [M1, D1] s K86 (fun H => H g86 = some (HO.lst [.str "p", .str "line"])) := Sta.lst z86 (by simp only [List.mem_cons, List.not_mem_nil, or_false, not_or]; exact ⟨y86_M1, y86_D1⟩) N86
    clear q86 w86 N86 z86 e86
    refine ⟨_, rfl, _, rfl, small rfl, fun g87 w87 => ?_⟩
    obtain ⟨K87, q87, e87, N87⟩ : ∃ H', H' = upd K86 g87 (HO.tup [.int (0), .int (0)]) ∧ Same K86 H' ∧ H' g87 = some (HO.tup [.int (0), .int (0)]) := ⟨_, rfl, same_new w87, upd_same⟩
    have z87 := S.new1 w87
    have y87_M1 : g87 ≠ M1 := fun z => by rw [z, hd_M1] at w87; cases w87
    have y87_D1 : g87 ≠ D1 := fun z => by rw [z, hd_D1] at w87; cases w87
    rw [← q87]
    replace S := S.same e87
    replace tb := tb.same e87
    replace hd_M1 := e87.get hd_M1
    replace hd_D1 := e87.get hd_D1
    replace tp := tp.same e87
    replace pp := pp.same e87
    replace ss := ss.same e87
    replace sq := sq.same e87
    replace h_np := h_np.same e87
    replace h_ns := h_ns.same e87
    replace h_nl := h_nl.same e87
    replace h_nr := h_nr.same e87
    replace h_fw := h_fw.same e87
    replace h_cr := h_cr.same e87
    replace h_mn := h_mn.same e87
    replace R80 := R80.same e87
    replace h_x1 := h_x1.same e87
    replace h_x2 := h_x2.same e87
    replace h_x3 := h_x3.same e87
    replace nn := nn.same e87
    have c87 := Sta.tup (K := K) (M := [M1, D1]) S (fun D h => by simp only [List.mem_cons, List.not_mem_nil, or_false] at h; rcases h with rfl | rfl <;> first | exact ⟨_, hd_M1⟩ | exact ⟨_, hd_D1⟩) (SqT.of N87)
    clear q87 w87 N87 z87 e87
    refine ⟨small rfl, fun g88 w88 => ?_⟩
    obtain ⟨K88, q88, e88, N88⟩ : ∃ H', H' = upd K87 g88 (HO.tup [.ref g1, .ref g87]) ∧ Same K87 H' ∧ H' g88 = some (HO.tup [.ref g1, .ref g87]) := ⟨_, rfl, same_new w88, upd_same⟩
    have z88 := S.new1 w88
    have y88_M1 : g88 ≠ M1 := fun z => by rw [z, hd_M1] at w88; cases w88
    have y88_D1 : g88 ≠ D1 := fun z => by rw [z, hd_D1] at w88; cases w88
    rw [← q88]
    replace S := S.same e88
    replace tb := tb.same e88
    replace hd_M1 := e88.get hd_M1
    replace hd_D1 := e88.get hd_D1
    replace tp := tp.same e88
    replace pp := pp.same e88
    replace ss := ss.same e88
    replace sq := sq.same e88
    replace h_np := h_np.same e88
    replace h_ns := h_ns.same e88
    replace h_nl := h_nl.same e88
    replace h_nr := h_nr.same e88
    replace h_fw := h_fw.same e88
    replace h_cr := h_cr.same e88
    replace h_mn := h_mn.same e88
    replace R80 := R80.same e88
    replace h_x1 := h_x1.same e88
    replace h_x2 := h_x2.same e88
    replace h_x3 := h_x3.same e88
    replace nn := nn.same e88
    replace c87 := c87.same e88
    have c88 := Sta.tup (K := K) (M := [M1, D1]) S (fun D h => by simp only [List.mem_cons, List.not_mem_nil, or_false] at h; rcases h with rfl | rfl <;> first | exact ⟨_, hd_M1⟩ | exact ⟨_, hd_D1⟩) (SqT.of N88)
    clear q88 w88 N88 z88 e88
    refine ⟨_, _, _, rfl, rfl, c88.here, (by simp), by decide, by decide, (by simp), fun g89 w89 => ?_⟩
    obtain ⟨K89, q89, e89, N89⟩ : ∃ H', H' = upd K88 g89 (HO.tup (List.replicate (Int.toNat 20) [V.ref g1, .ref g87]).flatten) ∧ Same K88 H' ∧ H' g89 = some (HO.tup (List.replicate (Int.toNat 20) [V.ref g1, .ref g87]).flatten) := ⟨_, rfl, same_new w89, upd_same⟩
    have z89 := S.new1 w89
    have y89_M1 : g89 ≠ M1 := fun z => by rw [z, hd_M1] at w89; cases w89
    have y89_D1 : g89 ≠ D1 := fun z => by rw [z, hd_D1] at w89; cases w89
    rw [← q89]
    replace S := S.same e89
    replace tb := tb.same e89
    replace hd_M1 := e89.get hd_M1
    replace hd_D1 := e89.get hd_D1
    replace tp := tp.same e89
    replace pp := pp.same e89
    replace ss := ss.same e89
    replace sq := sq.same e89
    replace h_np := h_np.same e89
    replace h_ns := h_ns.same e89
    replace h_nl := h_nl.same e89
    replace h_nr := h_nr.same e89
    replace h_fw := h_fw.same e89
    replace h_cr := h_cr.same e89
    replace h_mn := h_mn.same e89
    replace R80 := R80.same e89
    replace h_x1 := h_x1.same e89
    replace h_x2 := h_x2.same e89
    replace h_x3 := h_x3.same e89
    replace nn := nn.same e89
    replace c87 := c87.same e89
    replace c88 := c88.same e89
    have c89 := Sta.tup (K := K) (M := [M1, D1]) S (fun D h => by simp only [List.mem_cons, List.not_mem_nil, or_false] at h; rcases h with rfl | rfl <;> first | exact ⟨_, hd_M1⟩ | exact ⟨_, hd_D1⟩) (SqT.of N89)
    clear q89 w89 N89 z89 e89
    have gl : Sta [M1, D1] s K89 (fun H => LnAt K H g89 (List.replicate 20 [((g1, -1000, 1000) : Zp), (g87, 0, 0)]).flatten) := fun H' q => ⟨by rw [alt_refs]; exact c89 H' q, fun z hz => (alt_mem hz).elim (fun e => by rw [e]; exact tp H' q) (fun e => by rw [e]; exact c87 H' q), fun z hz => (alt_mem hz).elim (fun e => by rw [e]; exact (show On (-1000) 1000 by unfold On; omega)) (fun e => by rw [e]; show On 0 0; unfold On; omega)⟩
    clear c87 c88 c89
    have gt : Sta [M1, D1] s K89 (fun H => LnV K H (.ref g89) true) := gl.map fun H h => LnV.good h (by rw [alt_len]; decide) ⟨by rw [alt_len]; decide, by rw [alt_len]; decide, alt_ne (fun z => absurd (show (-1000 : Int) = 0 from z.1) (by decide))⟩
    refine ⟨small rfl, fun g90 w90 => ?_⟩
    obtain ⟨K90, q90, e90, N90⟩ : ∃ H', H' = upd K89 g90 (HO.lst [.ref g1, .ref g89]) ∧ Same K89 H' ∧ H' g90 = some (HO.lst [.ref g1, .ref g89]) := ⟨_, rfl, same_new w90, upd_same⟩
    have z90 := S.new1 w90
    have y90_M1 : g90 ≠ M1 := fun z => by rw [z, hd_M1] at w90; cases w90
    have y90_D1 : g90 ≠ D1 := fun z => by rw [z, hd_D1] at w90; cases w90
    rw [← q90]
    replace S := S.same e90
    replace tb := tb.same e90
    replace hd_M1 := e90.get hd_M1
    replace hd_D1 := e90.get hd_D1
    replace tp := tp.same e90
    replace pp := pp.same e90
    replace ss := ss.same e90
    replace sq := sq.same e90
    replace h_np := h_np.same e90
    replace h_ns := h_ns.same e90
    replace h_nl := h_nl.same e90
    replace h_nr := h_nr.same e90
    replace h_fw := h_fw.same e90
    replace h_cr := h_cr.same e90
    replace h_mn := h_mn.same e90
    replace R80 := R80.same e90
    replace h_x1 := h_x1.same e90
    replace h_x2 := h_x2.same e90
    replace h_x3 := h_x3.same e90
    replace nn := nn.same e90
    replace gl := gl.same e90
    replace gt := gt.same e90
    have gg : Sta [M1, D1] s K90 (fun H => H g90 = some (HO.lst [.ref g1, .ref g89])) := Sta.lst z90 (by simp only [List.mem_cons, List.not_mem_nil, or_false, not_or]; exact ⟨y90_M1, y90_D1⟩) N90
    clear q90 w90 N90 z90 e90
    refine ⟨_, rfl, _, rfl, small rfl, fun g91 w91 => ?_⟩
    obtain ⟨K91, q91, e91, N91⟩ : ∃ H', H' = upd K90 g91 (HO.lst [np, nl]) ∧ Same K90 H' ∧ H' g91 = some (HO.lst [np, nl]) := ⟨_, rfl, same_new w91, upd_same⟩
    have z91 := S.new1 w91
    have y91_M1 : g91 ≠ M1 := fun z => by rw [z, hd_M1] at w91; cases w91
    have y91_D1 : g91 ≠ D1 := fun z => by rw [z, hd_D1] at w91; cases w91
    rw [← q91]
    replace S := S.same e91
    replace tb := tb.same e91
    replace hd_M1 := e91.get hd_M1
    replace hd_D1 := e91.get hd_D1
    replace tp := tp.same e91
    replace pp := pp.same e91
    replace ss := ss.same e91
    replace sq := sq.same e91
    replace h_np := h_np.same e91
    replace h_ns := h_ns.same e91
    replace h_nl := h_nl.same e91
    replace h_nr := h_nr.same e91
    replace h_fw := h_fw.same e91
    replace h_cr := h_cr.same e91
    replace h_mn := h_mn.same e91
    replace R80 := R80.same e91
    replace h_x1 := h_x1.same e91
    replace h_x2 := h_x2.same e91
    replace h_x3 := h_x3.same e91
    replace nn := nn.same e91
    replace gl := gl.same e91
    replace gt := gt.same e91
    replace gg := gg.same e91
    have bb : Sta [M1, D1] s K91 (fun H => H g91 = some (HO.lst [np, nl])) := Sta.lst z91 (by simp only [List.mem_cons, List.not_mem_nil, or_false, not_or]; exact ⟨y91_M1, y91_D1⟩) N91
    clear q91 w91 N91 z91 e91
    refine ⟨small rfl, fun g92 w92 => ?_⟩
    obtain ⟨K92, q92, e92, N92⟩ : ∃ H', H' = upd K91 g92 (HO.lst [.ref g86, .ref g90, .ref g91]) ∧ Same K91 H' ∧ H' g92 = some (HO.lst [.ref g86, .ref g90, .ref g91]) := ⟨_, rfl, same_new w92, upd_same⟩
    have z92 := S.new1 w92
    have y92_M1 : g92 ≠ M1 := fun z => by rw [z, hd_M1] at w92; cases w92
    have y92_D1 : g92 ≠ D1 := fun z => by rw [z, hd_D1] at w92; cases w92
    rw [← q92]
    replace S := S.same e92
    replace tb := tb.same e92
    replace hd_M1 := e92.get hd_M1
    replace hd_D1 := e92.get hd_D1
    replace tp := tp.same e92
    replace pp := pp.same e92
    replace ss := ss.same e92
    replace sq := sq.same e92
    replace h_np := h_np.same e92
    replace h_ns := h_ns.same e92
    replace h_nl := h_nl.same e92
    replace h_nr := h_nr.same e92
    replace h_fw := h_fw.same e92
    replace h_cr := h_cr.same e92
    replace h_mn := h_mn.same e92
    replace R80 := R80.same e92
    replace h_x1 := h_x1.same e92
    replace h_x2 := h_x2.same e92
    replace h_x3 := h_x3.same e92
    replace nn := nn.same e92
    replace gl := gl.same e92
    replace gt := gt.same e92
    replace gg := gg.same e92
    replace bb := bb.same e92
    have rr : Sta [M1, D1] s K92 (fun H => H g92 = some (HO.lst [.ref g86, .ref g90, .ref g91])) := Sta.lst z92 (by simp only [List.mem_cons, List.not_mem_nil, or_false, not_or]; exact ⟨y92_M1, y92_D1⟩) N92
    clear q92 w92 N92 z92 e92
    have R92 : Sta [M1, D1] s K92 (fun H => RowS K H 4 (.ref g92)) := fun H' q => row2 rfl rfl (rr H' q) (nn H' q) (gg H' q) (bb H' q) (pp H' q) (gt H' q) (h_np H' q) (h_nl H' q)
    clear rr nn gg bb
    clear gl gt
    refine ⟨_, _, _, rfl, rfl, hd_M1, Nat.lt_of_le_of_lt (Nat.le_of_ble_eq_true (m := 100) rfl) (line_of (by decide)), ?_⟩
    obtain ⟨K93, q93, N93⟩ : ∃ H', H' = upd K92 M1 (HO.lst (([V.ref g80] ++ [x1, x2, x3]) ++ [V.ref g92])) ∧ H' M1 = some (HO.lst (([V.ref g80] ++ [x1, x2, x3]) ++ [V.ref g92])) := ⟨_, rfl, upd_same⟩
    try dsimp only
    rw [← q93]
    replace S : Strm K93 s b := by rw [q93]; exact S.at n1_M1 n2_M1
    replace tb : Tbs T.ts K93 := by rw [q93]; exact tb.put ⟨_, hd_M1⟩
    replace hd_D1 := (show K93 D1 = K92 D1 from by rw [q93, upd_ne ne_D1_M1.symm]).trans hd_D1
    replace tp := tp.putE (D := M1) List.mem_cons_self q93
    replace pp := pp.putE (D := M1) List.mem_cons_self q93
    replace ss := ss.putE (D := M1) List.mem_cons_self q93
    replace sq := sq.putE (D := M1) List.mem_cons_self q93
    replace h_np := h_np.putE (D := M1) List.mem_cons_self q93
    replace h_ns := h_ns.putE (D := M1) List.mem_cons_self q93
    replace h_nl := h_nl.putE (D := M1) List.mem_cons_self q93
    replace h_nr := h_nr.putE (D := M1) List.mem_cons_self q93
    replace h_fw := h_fw.putE (D := M1) List.mem_cons_self q93
    replace h_cr := h_cr.putE (D := M1) List.mem_cons_self q93
    replace h_mn := h_mn.putE (D := M1) List.mem_cons_self q93
    replace R80 := R80.putE (D := M1) List.mem_cons_self q93
    replace h_x1 := h_x1.putE (D := M1) List.mem_cons_self q93
    replace h_x2 := h_x2.putE (D := M1) List.mem_cons_self q93
    replace h_x3 := h_x3.putE (D := M1) List.mem_cons_self q93
    replace R92 := R92.putE (D := M1) List.mem_cons_self q93
    clear hd_M1
    have hd_M1 := N93
    clear q93 N93
    refine ⟨_, rfl, tyL hd_M1, ?_⟩
    refine ⟨small rfl, fun g94 w94 => ?_⟩
    obtain ⟨K94, q94, e94, N94⟩ : ∃ H', H' = upd K93 g94 (HO.lst [.str "first", .str "second"]) ∧ Same K93 H' ∧ H' g94 = some (HO.lst [.str "first", .str "second"]) := ⟨_, rfl, same_new w94, upd_same⟩
    have z94 := S.new1 w94
    have y94_M1 : g94 ≠ M1 := fun z => by rw [z, hd_M1] at w94; cases w94
    have y94_D1 : g94 ≠ D1 := fun z => by rw [z, hd_D1] at w94; cases w94
    rw [← q94]
    replace S := S.same e94
    replace tb := tb.same e94
    replace hd_M1 := e94.get hd_M1
    replace hd_D1 := e94.get hd_D1
    replace tp := tp.same e94
    replace pp := pp.same e94
    replace ss := ss.same e94
    replace sq := sq.same e94
    replace h_np := h_np.same e94
    replace h_ns := h_ns.same e94
    replace h_nl := h_nl.same e94
    replace h_nr := h_nr.same e94
    replace h_fw := h_fw.same e94
    replace h_cr := h_cr.same e94
    replace h_mn := h_mn.same e94
    replace R80 := R80.same e94
    replace h_x1 := h_x1.same e94
    replace h_x2 := h_x2.same e94
    replace h_x3 := h_x3.same e94
    replace R92 := R92.same e94
    have nn : Sta [M1, D1] s K94 (fun H => H g94 = some (HO.lst [.str "first", .str "second"])) := Sta.lst z94 (by simp only [List.mem_cons, List.not_mem_nil, or_false, not_or]; exact ⟨y94_M1, y94_D1⟩) N94
    clear q94 w94 N94 z94 e94
    refine ⟨_, rfl, _, rfl, small rfl, fun g95 w95 => ?_⟩
    obtain ⟨K95, q95, e95, N95⟩ : ∃ H', H' = upd K94 g95 (HO.lst [.ref g4, .ref g4]) ∧ Same K94 H' ∧ H' g95 = some (HO.lst [.ref g4, .ref g4]) := ⟨_, rfl, same_new w95, upd_same⟩
    have z95 := S.new1 w95
    have y95_M1 : g95 ≠ M1 := fun z => by rw [z, hd_M1] at w95; cases w95
    have y95_D1 : g95 ≠ D1 := fun z => by rw [z, hd_D1] at w95; cases w95
    rw [← q95]
    replace S := S.same e95
    replace tb := tb.same e95
    replace hd_M1 := e95.get hd_M1
    replace hd_D1 := e95.get hd_D1
    replace tp := tp.same e95
    replace pp := pp.same e95
    replace ss := ss.same e95
    replace sq := sq.same e95
    replace h_np := h_np.same e95
    replace h_ns := h_ns.same e95
    replace h_nl := h_nl.same e95
    replace h_nr := h_nr.same e95
    replace h_fw := h_fw.same e95
    replace h_cr := h_cr.same e95
    replace h_mn := h_mn.same e95
    replace R80 := R80.same e95
    replace h_x1 := h_x1.same e95
    replace h_x2 := h_x2.same e95
    replace h_x3 := h_x3.same e95
    replace R92 := R92.same e95
    replace nn := nn.same e95
    have gg : Sta [M1, D1] s K95 (fun H => H g95 = some (HO.lst [.ref g4, .ref g4])) := Sta.lst z95 (by simp only [List.mem_cons, List.not_mem_nil, or_false, not_or]; exact ⟨y95_M1, y95_D1⟩) N95
    clear q95 w95 N95 z95 e95
    refine ⟨_, rfl, _, rfl, small rfl, fun g96 w96 => ?_⟩
    obtain ⟨K96, q96, e96, N96⟩ : ∃ H', H' = upd K95 g96 (HO.lst [ns, ns]) ∧ Same K95 H' ∧ H' g96 = some (HO.lst [ns, ns]) := ⟨_, rfl, same_new w96, upd_same⟩
    have z96 := S.new1 w96
    have y96_M1 : g96 ≠ M1 := fun z => by rw [z, hd_M1] at w96; cases w96
    have y96_D1 : g96 ≠ D1 := fun z => by rw [z, hd_D1] at w96; cases w96
    rw [← q96]
    replace S := S.same e96
    replace tb := tb.same e96
    replace hd_M1 := e96.get hd_M1
    replace hd_D1 := e96.get hd_D1
    replace tp := tp.same e96
    replace pp := pp.same e96
    replace ss := ss.same e96
    replace sq := sq.same e96
    replace h_np := h_np.same e96
    replace h_ns := h_ns.same e96
    replace h_nl := h_nl.same e96
    replace h_nr := h_nr.same e96
    replace h_fw := h_fw.same e96
    replace h_cr := h_cr.same e96
    replace h_mn := h_mn.same e96
    replace R80 := R80.same e96
    replace h_x1 := h_x1.same e96
    replace h_x2 := h_x2.same e96
    replace h_x3 := h_x3.same e96
    replace R92 := R92.same e96
    replace nn := nn.same e96
    replace gg := gg.same e96
    have bb : Sta [M1, D1] s K96 (fun H => H g96 = some (HO.lst [ns, ns])) := Sta.lst z96 (by simp only [List.mem_cons, List.not_mem_nil, or_false, not_or]; exact ⟨y96_M1, y96_D1⟩) N96
    clear q96 w96 N96 z96 e96
    refine ⟨small rfl, fun g97 w97 => ?_⟩
    obtain ⟨K97, q97, e97, N97⟩ : ∃ H', H' = upd K96 g97 (HO.lst [.ref g94, .ref g95, .ref g96]) ∧ Same K96 H' ∧ H' g97 = some (HO.lst [.ref g94, .ref g95, .ref g96]) := ⟨_, rfl, same_new w97, upd_same⟩
    have z97 := S.new1 w97
    have y97_M1 : g97 ≠ M1 := fun z => by rw [z, hd_M1] at w97; cases w97
    have y97_D1 : g97 ≠ D1 := fun z => by rw [z, hd_D1] at w97; cases w97
    rw [← q97]
    replace S := S.same e97
    replace tb := tb.same e97
    replace hd_M1 := e97.get hd_M1
    replace hd_D1 := e97.get hd_D1
    replace tp := tp.same e97
    replace pp := pp.same e97
    replace ss := ss.same e97
    replace sq := sq.same e97
    replace h_np := h_np.same e97
    replace h_ns := h_ns.same e97
    replace h_nl := h_nl.same e97
    replace h_nr := h_nr.same e97
    replace h_fw := h_fw.same e97
    replace h_cr := h_cr.same e97
    replace h_mn := h_mn.same e97
    replace R80 := R80.same e97
    replace h_x1 := h_x1.same e97
    replace h_x2 := h_x2.same e97
    replace h_x3 := h_x3.same e97
    replace R92 := R92.same e97
    replace nn := nn.same e97
    replace gg := gg.same e97
    replace bb := bb.same e97
    have rr : Sta [M1, D1] s K97 (fun H => H g97 = some (HO.lst [.ref g94, .ref g95, .ref g96])) := Sta.lst z97 (by simp only [List.mem_cons, List.not_mem_nil, or_false, not_or]; exact ⟨y97_M1, y97_D1⟩) N97
    clear q97 w97 N97 z97 e97
    have R97 : Sta [M1, D1] s K97 (fun H => RowS K H 5 (.ref g97)) := fun H' q => row2 rfl rfl (rr H' q) (nn H' q) (gg H' q) (bb H' q) (ss H' q) (ss H' q) (h_ns H' q) (h_ns H' q)
    clear rr nn gg bb
    refine ⟨_, _, _, rfl, rfl, hd_M1, Nat.lt_of_le_of_lt (Nat.le_of_ble_eq_true (m := 100) rfl) (line_of (by decide)), ?_⟩
    obtain ⟨K98, q98, N98⟩ : ∃ H', H' = upd K97 M1 (HO.lst ((([V.ref g80] ++ [x1, x2, x3]) ++ [V.ref g92]) ++ [V.ref g97])) ∧ H' M1 = some (HO.lst ((([V.ref g80] ++ [x1, x2, x3]) ++ [V.ref g92]) ++ [V.ref g97])) := ⟨_, rfl, upd_same⟩
    try dsimp only
    rw [← q98]
    replace S : Strm K98 s b := by rw [q98]; exact S.at n1_M1 n2_M1
    replace tb : Tbs T.ts K98 := by rw [q98]; exact tb.put ⟨_, hd_M1⟩
    replace hd_D1 := (show K98 D1 = K97 D1 from by rw [q98, upd_ne ne_D1_M1.symm]).trans hd_D1
    replace tp := tp.putE (D := M1) List.mem_cons_self q98
    replace pp := pp.putE (D := M1) List.mem_cons_self q98
    replace ss := ss.putE (D := M1) List.mem_cons_self q98
    replace sq := sq.putE (D := M1) List.mem_cons_self q98
    replace h_np := h_np.putE (D := M1) List.mem_cons_self q98
    replace h_ns := h_ns.putE (D := M1) List.mem_cons_self q98
    replace h_nl := h_nl.putE (D := M1) List.mem_cons_self q98
    replace h_nr := h_nr.putE (D := M1) List.mem_cons_self q98
    replace h_fw := h_fw.putE (D := M1) List.mem_cons_self q98
    replace h_cr := h_cr.putE (D := M1) List.mem_cons_self q98
    replace h_mn := h_mn.putE (D := M1) List.mem_cons_self q98
    replace R80 := R80.putE (D := M1) List.mem_cons_self q98
    replace h_x1 := h_x1.putE (D := M1) List.mem_cons_self q98
    replace h_x2 := h_x2.putE (D := M1) List.mem_cons_self q98
    replace h_x3 := h_x3.putE (D := M1) List.mem_cons_self q98
    replace R92 := R92.putE (D := M1) List.mem_cons_self q98
    replace R97 := R97.putE (D := M1) List.mem_cons_self q98
    clear hd_M1
    have hd_M1 := N98
    clear q98 N98
    refine ⟨_, rfl, tyL hd_M1, ?_⟩
    refine ⟨small rfl, fun g99 w99 => ?_⟩
    obtain ⟨K99, q99, e99, N99⟩ : ∃ H', H' = upd K98 g99 (HO.lst [.str "points"]) ∧ Same K98 H' ∧ H' g99 = some (HO.lst [.str "points"]) := ⟨_, rfl, same_new w99, upd_same⟩
    have z99 := S.new1 w99
    have y99_M1 : g99 ≠ M1 := fun z => by rw [z, hd_M1] at w99; cases w99
    have y99_D1 : g99 ≠ D1 := fun z => by rw [z, hd_D1] at w99; cases w99
    rw [← q99]
    replace S := S.same e99
    replace tb := tb.same e99
    replace hd_M1 := e99.get hd_M1
    replace hd_D1 := e99.get hd_D1
    replace tp := tp.same e99
    replace pp := pp.same e99
    replace ss := ss.same e99
    replace sq := sq.same e99
    replace h_np := h_np.same e99
    replace h_ns := h_ns.same e99
    replace h_nl := h_nl.same e99
    replace h_nr := h_nr.same e99
    replace h_fw := h_fw.same e99
    replace h_cr := h_cr.same e99
    replace h_mn := h_mn.same e99
    replace R80 := R80.same e99
    replace h_x1 := h_x1.same e99
    replace h_x2 := h_x2.same e99
    replace h_x3 := h_x3.same e99
    replace R92 := R92.same e99
    replace R97 := R97.same e99
    have nn : Sta [M1, D1] s K99 (fun H => H g99 = some (HO.lst [.str "points"])) := Sta.lst z99 (by simp only [List.mem_cons, List.not_mem_nil, or_false, not_or]; exact ⟨y99_M1, y99_D1⟩) N99
    clear q99 w99 N99 z99 e99
    refine ⟨_, rfl, _, _, rfl, sq.here.t, (by show 1 ≤ 4; decide), fun g100 o100 w100 d100 => ?_⟩
    obtain ⟨K100, q100, e100, N100⟩ : ∃ H', H' = upd K99 g100 (HO.frz o100 (.tup (refs [(g5, 0, 0), (g6, 4, 0), (g7, 4, 4), (g8, 0, 4)]).reverse)) ∧ Same K99 H' ∧ H' g100 = some (HO.frz o100 (.tup (refs [(g5, 0, 0), (g6, 4, 0), (g7, 4, 4), (g8, 0, 4)]).reverse)) := ⟨_, rfl, same_new w100, upd_same⟩
    have z100 := S.new1 w100
    have y100_M1 : g100 ≠ M1 := fun z => by rw [z, hd_M1] at w100; cases w100
    have y100_D1 : g100 ≠ D1 := fun z => by rw [z, hd_D1] at w100; cases w100
    rw [← q100]
    replace S := S.same e100
    replace tb := tb.same e100
    replace hd_M1 := e100.get hd_M1
    replace hd_D1 := e100.get hd_D1
    replace tp := tp.same e100
    replace pp := pp.same e100
    replace ss := ss.same e100
    replace sq := sq.same e100
    replace h_np := h_np.same e100
    replace h_ns := h_ns.same e100
    replace h_nl := h_nl.same e100
    replace h_nr := h_nr.same e100
    replace h_fw := h_fw.same e100
    replace h_cr := h_cr.same e100
    replace h_mn := h_mn.same e100
    replace R80 := R80.same e100
    replace h_x1 := h_x1.same e100
    replace h_x2 := h_x2.same e100
    replace h_x3 := h_x3.same e100
    replace R92 := R92.same e100
    replace R97 := R97.same e100
    replace nn := nn.same e100
    have c100 := Sta.tn (M := [M1, D1]) S (fun D h => by simp only [List.mem_cons, List.not_mem_nil, or_false] at h; rcases h with rfl | rfl <;> first | exact ⟨_, hd_M1⟩ | exact ⟨_, hd_D1⟩) ⟨_, N100, d100⟩
    clear q100 w100 N100 z100 e100
    have gl : Sta [M1, D1] s K100 (fun H => TN H g100 (refs [(g8, 0, 4), (g7, 4, 4), (g6, 4, 0), (g5, 0, 0)]) ∧ LnAt K H g100 [(g8, 0, 4), (g7, 4, 4), (g6, 4, 0), (g5, 0, 0)]) := fun H' q => ⟨c100 H' q, (sq H' q).sub (fun z hz => by simp only [List.mem_cons, List.not_mem_nil, or_false] at hz ⊢; rcases hz with rfl | rfl | rfl | rfl <;> simp) (c100 H' q).t⟩
    clear c100
    have gt : Sta [M1, D1] s K100 (fun H => GaV K H (.ref g100) true) := gl.map fun H h => .inl ⟨_, _, rfl, fun _ => h.1, h.2, (by show 4 ≤ 1000; decide), ⟨fun _ => ⟨(by show 3 ≤ 4; decide), (by show 4 ≤ 40; decide), Simp.back (zs := [(g5, 0, 0), (g6, 4, 0), (g7, 4, 4), (g8, 0, 4)]) (by show 3 ≤ 4; decide) sq_ring.simp⟩, fun _ => rfl⟩⟩
    refine ⟨small rfl, fun g101 w101 => ?_⟩
    obtain ⟨K101, q101, e101, N101⟩ : ∃ H', H' = upd K100 g101 (HO.lst [.ref g100]) ∧ Same K100 H' ∧ H' g101 = some (HO.lst [.ref g100]) := ⟨_, rfl, same_new w101, upd_same⟩
    have z101 := S.new1 w101
    have y101_M1 : g101 ≠ M1 := fun z => by rw [z, hd_M1] at w101; cases w101
    have y101_D1 : g101 ≠ D1 := fun z => by rw [z, hd_D1] at w101; cases w101
    rw [← q101]
    replace S := S.same e101
    replace tb := tb.same e101
    replace hd_M1 := e101.get hd_M1
    replace hd_D1 := e101.get hd_D1
    replace tp := tp.same e101
    replace pp := pp.same e101
    replace ss := ss.same e101
    replace sq := sq.same e101
    replace h_np := h_np.same e101
    replace h_ns := h_ns.same e101
    replace h_nl := h_nl.same e101
    replace h_nr := h_nr.same e101
    replace h_fw := h_fw.same e101
    replace h_cr := h_cr.same e101
    replace h_mn := h_mn.same e101
    replace R80 := R80.same e101
    replace h_x1 := h_x1.same e101
    replace h_x2 := h_x2.same e101
    replace h_x3 := h_x3.same e101
    replace R92 := R92.same e101
    replace R97 := R97.same e101
    replace nn := nn.same e101
    replace gl := gl.same e101
    replace gt := gt.same e101
    have gg : Sta [M1, D1] s K101 (fun H => H g101 = some (HO.lst [.ref g100])) := Sta.lst z101 (by simp only [List.mem_cons, List.not_mem_nil, or_false, not_or]; exact ⟨y101_M1, y101_D1⟩) N101
    clear q101 w101 N101 z101 e101
    refine ⟨_, rfl, small rfl, fun g102 w102 => ?_⟩
    obtain ⟨K102, q102, e102, N102⟩ : ∃ H', H' = upd K101 g102 (HO.lst [cr]) ∧ Same K101 H' ∧ H' g102 = some (HO.lst [cr]) := ⟨_, rfl, same_new w102, upd_same⟩
    have z102 := S.new1 w102
    have y102_M1 : g102 ≠ M1 := fun z => by rw [z, hd_M1] at w102; cases w102
    have y102_D1 : g102 ≠ D1 := fun z => by rw [z, hd_D1] at w102; cases w102
    rw [← q102]
    replace S := S.same e102
    replace tb := tb.same e102
    replace hd_M1 := e102.get hd_M1
    replace hd_D1 := e102.get hd_D1
    replace tp := tp.same e102
    replace pp := pp.same e102
    replace ss := ss.same e102
    replace sq := sq.same e102
    replace h_np := h_np.same e102
    replace h_ns := h_ns.same e102
    replace h_nl := h_nl.same e102
    replace h_nr := h_nr.same e102
    replace h_fw := h_fw.same e102
    replace h_cr := h_cr.same e102
    replace h_mn := h_mn.same e102
    replace R80 := R80.same e102
    replace h_x1 := h_x1.same e102
    replace h_x2 := h_x2.same e102
    replace h_x3 := h_x3.same e102
    replace R92 := R92.same e102
    replace R97 := R97.same e102
    replace nn := nn.same e102
    replace gl := gl.same e102
    replace gt := gt.same e102
    replace gg := gg.same e102
    have bb : Sta [M1, D1] s K102 (fun H => H g102 = some (HO.lst [cr])) := Sta.lst z102 (by simp only [List.mem_cons, List.not_mem_nil, or_false, not_or]; exact ⟨y102_M1, y102_D1⟩) N102
    clear q102 w102 N102 z102 e102
    refine ⟨small rfl, fun g103 w103 => ?_⟩
    obtain ⟨K103, q103, e103, N103⟩ : ∃ H', H' = upd K102 g103 (HO.lst [.ref g99, .ref g101, .ref g102]) ∧ Same K102 H' ∧ H' g103 = some (HO.lst [.ref g99, .ref g101, .ref g102]) := ⟨_, rfl, same_new w103, upd_same⟩
    have z103 := S.new1 w103
    have y103_M1 : g103 ≠ M1 := fun z => by rw [z, hd_M1] at w103; cases w103
    have y103_D1 : g103 ≠ D1 := fun z => by rw [z, hd_D1] at w103; cases w103
    rw [← q103]
    replace S := S.same e103
    replace tb := tb.same e103
    replace hd_M1 := e103.get hd_M1
    replace hd_D1 := e103.get hd_D1
    replace tp := tp.same e103
    replace pp := pp.same e103
    replace ss := ss.same e103
    replace sq := sq.same e103
    replace h_np := h_np.same e103
    replace h_ns := h_ns.same e103
    replace h_nl := h_nl.same e103
    replace h_nr := h_nr.same e103
    replace h_fw := h_fw.same e103
    replace h_cr := h_cr.same e103
    replace h_mn := h_mn.same e103
    replace R80 := R80.same e103
    replace h_x1 := h_x1.same e103
    replace h_x2 := h_x2.same e103
    replace h_x3 := h_x3.same e103
    replace R92 := R92.same e103
    replace R97 := R97.same e103
    replace nn := nn.same e103
    replace gl := gl.same e103
    replace gt := gt.same e103
    replace gg := gg.same e103
    replace bb := bb.same e103
    have rr : Sta [M1, D1] s K103 (fun H => H g103 = some (HO.lst [.ref g99, .ref g101, .ref g102])) := Sta.lst z103 (by simp only [List.mem_cons, List.not_mem_nil, or_false, not_or]; exact ⟨y103_M1, y103_D1⟩) N103
    clear q103 w103 N103 z103 e103
    have R103 : Sta [M1, D1] s K103 (fun H => RowS K H 6 (.ref g103)) := fun H' q => row1 rfl rfl (rr H' q) (nn H' q) (gg H' q) (bb H' q) (gt H' q) (h_cr H' q)
    clear rr nn gg bb
    clear gl gt
    refine ⟨_, _, _, rfl, rfl, hd_M1, Nat.lt_of_le_of_lt (Nat.le_of_ble_eq_true (m := 100) rfl) (line_of (by decide)), ?_⟩
    obtain ⟨K104, q104, N104⟩ : ∃ H', H' = upd K103 M1 (HO.lst (((([V.ref g80] ++ [x1, x2, x3]) ++ [V.ref g92]) ++ [V.ref g97]) ++ [V.ref g103])) ∧ H' M1 = some (HO.lst (((([V.ref g80] ++ [x1, x2, x3]) ++ [V.ref g92]) ++ [V.ref g97]) ++ [V.ref g103])) := ⟨_, rfl, upd_same⟩
    try dsimp only
    rw [← q104]
    replace S : Strm K104 s b := by rw [q104]; exact S.at n1_M1 n2_M1
    replace tb : Tbs T.ts K104 := by rw [q104]; exact tb.put ⟨_, hd_M1⟩
    replace hd_D1 := (show K104 D1 = K103 D1 from by rw [q104, upd_ne ne_D1_M1.symm]).trans hd_D1
    replace tp := tp.putE (D := M1) List.mem_cons_self q104
    replace pp := pp.putE (D := M1) List.mem_cons_self q104
    replace ss := ss.putE (D := M1) List.mem_cons_self q104
    replace sq := sq.putE (D := M1) List.mem_cons_self q104
    replace h_np := h_np.putE (D := M1) List.mem_cons_self q104
    replace h_ns := h_ns.putE (D := M1) List.mem_cons_self q104
    replace h_nl := h_nl.putE (D := M1) List.mem_cons_self q104
    replace h_nr := h_nr.putE (D := M1) List.mem_cons_self q104
    replace h_fw := h_fw.putE (D := M1) List.mem_cons_self q104
    replace h_cr := h_cr.putE (D := M1) List.mem_cons_self q104
    replace h_mn := h_mn.putE (D := M1) List.mem_cons_self q104
    replace R80 := R80.putE (D := M1) List.mem_cons_self q104
    replace h_x1 := h_x1.putE (D := M1) List.mem_cons_self q104
    replace h_x2 := h_x2.putE (D := M1) List.mem_cons_self q104
    replace h_x3 := h_x3.putE (D := M1) List.mem_cons_self q104
    replace R92 := R92.putE (D := M1) List.mem_cons_self q104
    replace R97 := R97.putE (D := M1) List.mem_cons_self q104
    replace R103 := R103.putE (D := M1) List.mem_cons_self q104
    clear hd_M1
    have hd_M1 := N104
    clear q104 N104
    refine ⟨_, rfl, tyL hd_M1, ?_⟩
    refine ⟨small rfl, fun g105 w105 => ?_⟩
    obtain ⟨K105, q105, e105, N105⟩ : ∃ H', H' = upd K104 g105 (HO.lst [.str "points"]) ∧ Same K104 H' ∧ H' g105 = some (HO.lst [.str "points"]) := ⟨_, rfl, same_new w105, upd_same⟩
    have z105 := S.new1 w105
    have y105_M1 : g105 ≠ M1 := fun z => by rw [z, hd_M1] at w105; cases w105
    have y105_D1 : g105 ≠ D1 := fun z => by rw [z, hd_D1] at w105; cases w105
    rw [← q105]
    replace S := S.same e105
    replace tb := tb.same e105
    replace hd_M1 := e105.get hd_M1
    replace hd_D1 := e105.get hd_D1
    replace tp := tp.same e105
    replace pp := pp.same e105
    replace ss := ss.same e105
    replace sq := sq.same e105
    replace h_np := h_np.same e105
    replace h_ns := h_ns.same e105
    replace h_nl := h_nl.same e105
    replace h_nr := h_nr.same e105
    replace h_fw := h_fw.same e105
    replace h_cr := h_cr.same e105
    replace h_mn := h_mn.same e105
    replace R80 := R80.same e105
    replace h_x1 := h_x1.same e105
    replace h_x2 := h_x2.same e105
    replace h_x3 := h_x3.same e105
    replace R92 := R92.same e105
    replace R97 := R97.same e105
    replace R103 := R103.same e105
    have nn : Sta [M1, D1] s K105 (fun H => H g105 = some (HO.lst [.str "points"])) := Sta.lst z105 (by simp only [List.mem_cons, List.not_mem_nil, or_false, not_or]; exact ⟨y105_M1, y105_D1⟩) N105
    clear q105 w105 N105 z105 e105
    refine ⟨small rfl, fun g106 w106 => ?_⟩
    obtain ⟨K106, q106, e106, N106⟩ : ∃ H', H' = upd K105 g106 (HO.tup [.int (0), .int (0)]) ∧ Same K105 H' ∧ H' g106 = some (HO.tup [.int (0), .int (0)]) := ⟨_, rfl, same_new w106, upd_same⟩
    have z106 := S.new1 w106
    have y106_M1 : g106 ≠ M1 := fun z => by rw [z, hd_M1] at w106; cases w106
    have y106_D1 : g106 ≠ D1 := fun z => by rw [z, hd_D1] at w106; cases w106
    rw [← q106]
    replace S := S.same e106
    replace tb := tb.same e106
    replace hd_M1 := e106.get hd_M1
    replace hd_D1 := e106.get hd_D1
    replace tp := tp.same e106
    replace pp := pp.same e106
    replace ss := ss.same e106
    replace sq := sq.same e106
    replace h_np := h_np.same e106
    replace h_ns := h_ns.same e106
    replace h_nl := h_nl.same e106
    replace h_nr := h_nr.same e106
    replace h_fw := h_fw.same e106
    replace h_cr := h_cr.same e106
    replace h_mn := h_mn.same e106
    replace R80 := R80.same e106
    replace h_x1 := h_x1.same e106
    replace h_x2 := h_x2.same e106
    replace h_x3 := h_x3.same e106
    replace R92 := R92.same e106
    replace R97 := R97.same e106
    replace R103 := R103.same e106
    replace nn := nn.same e106
    have c106 := Sta.tup (K := K) (M := [M1, D1]) S (fun D h => by simp only [List.mem_cons, List.not_mem_nil, or_false] at h; rcases h with rfl | rfl <;> first | exact ⟨_, hd_M1⟩ | exact ⟨_, hd_D1⟩) (SqT.of N106)
    clear q106 w106 N106 z106 e106
    refine ⟨small rfl, fun g107 w107 => ?_⟩
    obtain ⟨K107, q107, e107, N107⟩ : ∃ H', H' = upd K106 g107 (HO.tup [.ref g106]) ∧ Same K106 H' ∧ H' g107 = some (HO.tup [.ref g106]) := ⟨_, rfl, same_new w107, upd_same⟩
    have z107 := S.new1 w107
    have y107_M1 : g107 ≠ M1 := fun z => by rw [z, hd_M1] at w107; cases w107
    have y107_D1 : g107 ≠ D1 := fun z => by rw [z, hd_D1] at w107; cases w107
    rw [← q107]
    replace S := S.same e107
    replace tb := tb.same e107
    replace hd_M1 := e107.get hd_M1
    replace hd_D1 := e107.get hd_D1
    replace tp := tp.same e107
    replace pp := pp.same e107
    replace ss := ss.same e107
    replace sq := sq.same e107
    replace h_np := h_np.same e107
    replace h_ns := h_ns.same e107
    replace h_nl := h_nl.same e107
    replace h_nr := h_nr.same e107
    replace h_fw := h_fw.same e107
    replace h_cr := h_cr.same e107
    replace h_mn := h_mn.same e107
    replace R80 := R80.same e107
    replace h_x1 := h_x1.same e107
    replace h_x2 := h_x2.same e107
    replace h_x3 := h_x3.same e107
    replace R92 := R92.same e107
    replace R97 := R97.same e107
    replace R103 := R103.same e107
    replace nn := nn.same e107
    replace c106 := c106.same e107
    have c107 := Sta.tup (K := K) (M := [M1, D1]) S (fun D h => by simp only [List.mem_cons, List.not_mem_nil, or_false] at h; rcases h with rfl | rfl <;> first | exact ⟨_, hd_M1⟩ | exact ⟨_, hd_D1⟩) (SqT.of N107)
    clear q107 w107 N107 z107 e107
    refine ⟨_, _, _, rfl, rfl, c107.here, (by simp), by decide, by decide, (by simp), fun g108 w108 => ?_⟩
    obtain ⟨K108, q108, e108, N108⟩ : ∃ H', H' = upd K107 g108 (HO.tup (List.replicate (Int.toNat 40) [V.ref g106]).flatten) ∧ Same K107 H' ∧ H' g108 = some (HO.tup (List.replicate (Int.toNat 40) [V.ref g106]).flatten) := ⟨_, rfl, same_new w108, upd_same⟩
    have z108 := S.new1 w108
    have y108_M1 : g108 ≠ M1 := fun z => by rw [z, hd_M1] at w108; cases w108
    have y108_D1 : g108 ≠ D1 := fun z => by rw [z, hd_D1] at w108; cases w108
    rw [← q108]
    replace S := S.same e108
    replace tb := tb.same e108
    replace hd_M1 := e108.get hd_M1
    replace hd_D1 := e108.get hd_D1
    replace tp := tp.same e108
    replace pp := pp.same e108
    replace ss := ss.same e108
    replace sq := sq.same e108
    replace h_np := h_np.same e108
    replace h_ns := h_ns.same e108
    replace h_nl := h_nl.same e108
    replace h_nr := h_nr.same e108
    replace h_fw := h_fw.same e108
    replace h_cr := h_cr.same e108
    replace h_mn := h_mn.same e108
    replace R80 := R80.same e108
    replace h_x1 := h_x1.same e108
    replace h_x2 := h_x2.same e108
    replace h_x3 := h_x3.same e108
    replace R92 := R92.same e108
    replace R97 := R97.same e108
    replace R103 := R103.same e108
    replace nn := nn.same e108
    replace c106 := c106.same e108
    replace c107 := c107.same e108
    have c108 := Sta.tup (K := K) (M := [M1, D1]) S (fun D h => by simp only [List.mem_cons, List.not_mem_nil, or_false] at h; rcases h with rfl | rfl <;> first | exact ⟨_, hd_M1⟩ | exact ⟨_, hd_D1⟩) (SqT.of N108)
    clear q108 w108 N108 z108 e108
    have gl : Sta [M1, D1] s K108 (fun H => LnAt K H g108 (List.replicate 40 ((g106, 0, 0) : Zp))) := fun H' q => ⟨by rw [one_rep]; exact c108 H' q, fun z hz => by rw [List.eq_of_mem_replicate hz]; exact c106 H' q, fun z hz => by rw [List.eq_of_mem_replicate hz]; show On 0 0; unfold On; omega⟩
    clear c106 c107 c108
    have gt : Sta [M1, D1] s K108 (fun H => AV K 3 40 H (.ref g108) true) := gl.map fun H h => AV.ln h (by rw [List.length_replicate]; decide) (by rw [List.length_replicate]; rfl)
    refine ⟨small rfl, fun g109 w109 => ?_⟩
    obtain ⟨K109, q109, e109, N109⟩ : ∃ H', H' = upd K108 g109 (HO.lst [.ref g108]) ∧ Same K108 H' ∧ H' g109 = some (HO.lst [.ref g108]) := ⟨_, rfl, same_new w109, upd_same⟩
    have z109 := S.new1 w109
    have y109_M1 : g109 ≠ M1 := fun z => by rw [z, hd_M1] at w109; cases w109
    have y109_D1 : g109 ≠ D1 := fun z => by rw [z, hd_D1] at w109; cases w109
    rw [← q109]
    replace S := S.same e109
    replace tb := tb.same e109
    replace hd_M1 := e109.get hd_M1
    replace hd_D1 := e109.get hd_D1
    replace tp := tp.same e109
    replace pp := pp.same e109
    replace ss := ss.same e109
    replace sq := sq.same e109
    replace h_np := h_np.same e109
    replace h_ns := h_ns.same e109
    replace h_nl := h_nl.same e109
    replace h_nr := h_nr.same e109
    replace h_fw := h_fw.same e109
    replace h_cr := h_cr.same e109
    replace h_mn := h_mn.same e109
    replace R80 := R80.same e109
    replace h_x1 := h_x1.same e109
    replace h_x2 := h_x2.same e109
    replace h_x3 := h_x3.same e109
    replace R92 := R92.same e109
    replace R97 := R97.same e109
    replace R103 := R103.same e109
    replace nn := nn.same e109
    replace gl := gl.same e109
    replace gt := gt.same e109
    have gg : Sta [M1, D1] s K109 (fun H => H g109 = some (HO.lst [.ref g108])) := Sta.lst z109 (by simp only [List.mem_cons, List.not_mem_nil, or_false, not_or]; exact ⟨y109_M1, y109_D1⟩) N109
    clear q109 w109 N109 z109 e109
    refine ⟨_, rfl, small rfl, fun g110 w110 => ?_⟩
    obtain ⟨K110, q110, e110, N110⟩ : ∃ H', H' = upd K109 g110 (HO.lst [fw]) ∧ Same K109 H' ∧ H' g110 = some (HO.lst [fw]) := ⟨_, rfl, same_new w110, upd_same⟩
    have z110 := S.new1 w110
    have y110_M1 : g110 ≠ M1 := fun z => by rw [z, hd_M1] at w110; cases w110
    have y110_D1 : g110 ≠ D1 := fun z => by rw [z, hd_D1] at w110; cases w110
    rw [← q110]
    replace S := S.same e110
    replace tb := tb.same e110
    replace hd_M1 := e110.get hd_M1
    replace hd_D1 := e110.get hd_D1
    replace tp := tp.same e110
    replace pp := pp.same e110
    replace ss := ss.same e110
    replace sq := sq.same e110
    replace h_np := h_np.same e110
    replace h_ns := h_ns.same e110
    replace h_nl := h_nl.same e110
    replace h_nr := h_nr.same e110
    replace h_fw := h_fw.same e110
    replace h_cr := h_cr.same e110
    replace h_mn := h_mn.same e110
    replace R80 := R80.same e110
    replace h_x1 := h_x1.same e110
    replace h_x2 := h_x2.same e110
    replace h_x3 := h_x3.same e110
    replace R92 := R92.same e110
    replace R97 := R97.same e110
    replace R103 := R103.same e110
    replace nn := nn.same e110
    replace gl := gl.same e110
    replace gt := gt.same e110
    replace gg := gg.same e110
    have bb : Sta [M1, D1] s K110 (fun H => H g110 = some (HO.lst [fw])) := Sta.lst z110 (by simp only [List.mem_cons, List.not_mem_nil, or_false, not_or]; exact ⟨y110_M1, y110_D1⟩) N110
    clear q110 w110 N110 z110 e110
    refine ⟨small rfl, fun g111 w111 => ?_⟩
    obtain ⟨K111, q111, e111, N111⟩ : ∃ H', H' = upd K110 g111 (HO.lst [.ref g105, .ref g109, .ref g110]) ∧ Same K110 H' ∧ H' g111 = some (HO.lst [.ref g105, .ref g109, .ref g110]) := ⟨_, rfl, same_new w111, upd_same⟩
    have z111 := S.new1 w111
    have y111_M1 : g111 ≠ M1 := fun z => by rw [z, hd_M1] at w111; cases w111
    have y111_D1 : g111 ≠ D1 := fun z => by rw [z, hd_D1] at w111; cases w111
    rw [← q111]
    replace S := S.same e111
    replace tb := tb.same e111
    replace hd_M1 := e111.get hd_M1
    replace hd_D1 := e111.get hd_D1
    replace tp := tp.same e111
    replace pp := pp.same e111
    replace ss := ss.same e111
    replace sq := sq.same e111
    replace h_np := h_np.same e111
    replace h_ns := h_ns.same e111
    replace h_nl := h_nl.same e111
    replace h_nr := h_nr.same e111
    replace h_fw := h_fw.same e111
    replace h_cr := h_cr.same e111
    replace h_mn := h_mn.same e111
    replace R80 := R80.same e111
    replace h_x1 := h_x1.same e111
    replace h_x2 := h_x2.same e111
    replace h_x3 := h_x3.same e111
    replace R92 := R92.same e111
    replace R97 := R97.same e111
    replace R103 := R103.same e111
    replace nn := nn.same e111
    replace gl := gl.same e111
    replace gt := gt.same e111
    replace gg := gg.same e111
    replace bb := bb.same e111
    have rr : Sta [M1, D1] s K111 (fun H => H g111 = some (HO.lst [.ref g105, .ref g109, .ref g110])) := Sta.lst z111 (by simp only [List.mem_cons, List.not_mem_nil, or_false, not_or]; exact ⟨y111_M1, y111_D1⟩) N111
    clear q111 w111 N111 z111 e111
    have R111 : Sta [M1, D1] s K111 (fun H => RowS K H 7 (.ref g111)) := fun H' q => row1 rfl rfl (rr H' q) (nn H' q) (gg H' q) (bb H' q) (gt H' q) (h_fw H' q)
    clear rr nn gg bb
    clear gl gt
    refine ⟨_, _, _, rfl, rfl, hd_M1, Nat.lt_of_le_of_lt (Nat.le_of_ble_eq_true (m := 100) rfl) (line_of (by decide)), ?_⟩
    obtain ⟨K112, q112, N112⟩ : ∃ H', H' = upd K111 M1 (HO.lst ((((([V.ref g80] ++ [x1, x2, x3]) ++ [V.ref g92]) ++ [V.ref g97]) ++ [V.ref g103]) ++ [V.ref g111])) ∧ H' M1 = some (HO.lst ((((([V.ref g80] ++ [x1, x2, x3]) ++ [V.ref g92]) ++ [V.ref g97]) ++ [V.ref g103]) ++ [V.ref g111])) := ⟨_, rfl, upd_same⟩
    try dsimp only
    rw [← q112]
    replace S : Strm K112 s b := by rw [q112]; exact S.at n1_M1 n2_M1
    replace tb : Tbs T.ts K112 := by rw [q112]; exact tb.put ⟨_, hd_M1⟩
    replace hd_D1 := (show K112 D1 = K111 D1 from by rw [q112, upd_ne ne_D1_M1.symm]).trans hd_D1
    replace tp := tp.putE (D := M1) List.mem_cons_self q112
    replace pp := pp.putE (D := M1) List.mem_cons_self q112
    replace ss := ss.putE (D := M1) List.mem_cons_self q112
    replace sq := sq.putE (D := M1) List.mem_cons_self q112
    replace h_np := h_np.putE (D := M1) List.mem_cons_self q112
    replace h_ns := h_ns.putE (D := M1) List.mem_cons_self q112
    replace h_nl := h_nl.putE (D := M1) List.mem_cons_self q112
    replace h_nr := h_nr.putE (D := M1) List.mem_cons_self q112
    replace h_fw := h_fw.putE (D := M1) List.mem_cons_self q112
    replace h_cr := h_cr.putE (D := M1) List.mem_cons_self q112
    replace h_mn := h_mn.putE (D := M1) List.mem_cons_self q112
    replace R80 := R80.putE (D := M1) List.mem_cons_self q112
    replace h_x1 := h_x1.putE (D := M1) List.mem_cons_self q112
    replace h_x2 := h_x2.putE (D := M1) List.mem_cons_self q112
    replace h_x3 := h_x3.putE (D := M1) List.mem_cons_self q112
    replace R92 := R92.putE (D := M1) List.mem_cons_self q112
    replace R97 := R97.putE (D := M1) List.mem_cons_self q112
    replace R103 := R103.putE (D := M1) List.mem_cons_self q112
    replace R111 := R111.putE (D := M1) List.mem_cons_self q112
    clear hd_M1
    have hd_M1 := N112
    clear q112 N112
    refine ⟨_, rfl, tyL hd_M1, ?_⟩
    refine ⟨small rfl, fun g113 w113 => ?_⟩
    obtain ⟨K113, q113, e113, N113⟩ : ∃ H', H' = upd K112 g113 (HO.lst [.str "p", .str "ring"]) ∧ Same K112 H' ∧ H' g113 = some (HO.lst [.str "p", .str "ring"]) := ⟨_, rfl, same_new w113, upd_same⟩
    have z113 := S.new1 w113
    have y113_M1 : g113 ≠ M1 := fun z => by rw [z, hd_M1] at w113; cases w113
    have y113_D1 : g113 ≠ D1 := fun z => by rw [z, hd_D1] at w113; cases w113
    rw [← q113]
    replace S := S.same e113
    replace tb := tb.same e113
    replace hd_M1 := e113.get hd_M1
    replace hd_D1 := e113.get hd_D1
    replace tp := tp.same e113
    replace pp := pp.same e113
    replace ss := ss.same e113
    replace sq := sq.same e113
    replace h_np := h_np.same e113
    replace h_ns := h_ns.same e113
    replace h_nl := h_nl.same e113
    replace h_nr := h_nr.same e113
    replace h_fw := h_fw.same e113
    replace h_cr := h_cr.same e113
    replace h_mn := h_mn.same e113
    replace R80 := R80.same e113
    replace h_x1 := h_x1.same e113
    replace h_x2 := h_x2.same e113
    replace h_x3 := h_x3.same e113
    replace R92 := R92.same e113
    replace R97 := R97.same e113
    replace R103 := R103.same e113
    replace R111 := R111.same e113
    have nn : Sta [M1, D1] s K113 (fun H => H g113 = some (HO.lst [.str "p", .str "ring"])) := Sta.lst z113 (by simp only [List.mem_cons, List.not_mem_nil, or_false, not_or]; exact ⟨y113_M1, y113_D1⟩) N113
    clear q113 w113 N113 z113 e113
    have gt : Sta [M1, D1] s K113 (fun H => RgV K H (.ref g9) true) := sq.map fun H h => .inl ⟨_, _, rfl, h, (by show 4 ≤ 1000; decide), ⟨fun _ => sq_ring, fun _ => rfl⟩⟩
    refine ⟨_, rfl, _, rfl, small rfl, fun g114 w114 => ?_⟩
    obtain ⟨K114, q114, e114, N114⟩ : ∃ H', H' = upd K113 g114 (HO.lst [.ref g1, .ref g9]) ∧ Same K113 H' ∧ H' g114 = some (HO.lst [.ref g1, .ref g9]) := ⟨_, rfl, same_new w114, upd_same⟩
    have z114 := S.new1 w114
    have y114_M1 : g114 ≠ M1 := fun z => by rw [z, hd_M1] at w114; cases w114
    have y114_D1 : g114 ≠ D1 := fun z => by rw [z, hd_D1] at w114; cases w114
    rw [← q114]
    replace S := S.same e114
    replace tb := tb.same e114
    replace hd_M1 := e114.get hd_M1
    replace hd_D1 := e114.get hd_D1
    replace tp := tp.same e114
    replace pp := pp.same e114
    replace ss := ss.same e114
    replace sq := sq.same e114
    replace h_np := h_np.same e114
    replace h_ns := h_ns.same e114
    replace h_nl := h_nl.same e114
    replace h_nr := h_nr.same e114
    replace h_fw := h_fw.same e114
    replace h_cr := h_cr.same e114
    replace h_mn := h_mn.same e114
    replace R80 := R80.same e114
    replace h_x1 := h_x1.same e114
    replace h_x2 := h_x2.same e114
    replace h_x3 := h_x3.same e114
    replace R92 := R92.same e114
    replace R97 := R97.same e114
    replace R103 := R103.same e114
    replace R111 := R111.same e114
    replace nn := nn.same e114
    replace gt := gt.same e114
    have gg : Sta [M1, D1] s K114 (fun H => H g114 = some (HO.lst [.ref g1, .ref g9])) := Sta.lst z114 (by simp only [List.mem_cons, List.not_mem_nil, or_false, not_or]; exact ⟨y114_M1, y114_D1⟩) N114
    clear q114 w114 N114 z114 e114
    refine ⟨_, rfl, _, rfl, small rfl, fun g115 w115 => ?_⟩
    obtain ⟨K115, q115, e115, N115⟩ : ∃ H', H' = upd K114 g115 (HO.lst [np, nr]) ∧ Same K114 H' ∧ H' g115 = some (HO.lst [np, nr]) := ⟨_, rfl, same_new w115, upd_same⟩
    have z115 := S.new1 w115
    have y115_M1 : g115 ≠ M1 := fun z => by rw [z, hd_M1] at w115; cases w115
    have y115_D1 : g115 ≠ D1 := fun z => by rw [z, hd_D1] at w115; cases w115
    rw [← q115]
    replace S := S.same e115
    replace tb := tb.same e115
    replace hd_M1 := e115.get hd_M1
    replace hd_D1 := e115.get hd_D1
    replace tp := tp.same e115
    replace pp := pp.same e115
    replace ss := ss.same e115
    replace sq := sq.same e115
    replace h_np := h_np.same e115
    replace h_ns := h_ns.same e115
    replace h_nl := h_nl.same e115
    replace h_nr := h_nr.same e115
    replace h_fw := h_fw.same e115
    replace h_cr := h_cr.same e115
    replace h_mn := h_mn.same e115
    replace R80 := R80.same e115
    replace h_x1 := h_x1.same e115
    replace h_x2 := h_x2.same e115
    replace h_x3 := h_x3.same e115
    replace R92 := R92.same e115
    replace R97 := R97.same e115
    replace R103 := R103.same e115
    replace R111 := R111.same e115
    replace nn := nn.same e115
    replace gt := gt.same e115
    replace gg := gg.same e115
    have bb : Sta [M1, D1] s K115 (fun H => H g115 = some (HO.lst [np, nr])) := Sta.lst z115 (by simp only [List.mem_cons, List.not_mem_nil, or_false, not_or]; exact ⟨y115_M1, y115_D1⟩) N115
    clear q115 w115 N115 z115 e115
    refine ⟨small rfl, fun g116 w116 => ?_⟩
    obtain ⟨K116, q116, e116, N116⟩ : ∃ H', H' = upd K115 g116 (HO.lst [.ref g113, .ref g114, .ref g115]) ∧ Same K115 H' ∧ H' g116 = some (HO.lst [.ref g113, .ref g114, .ref g115]) := ⟨_, rfl, same_new w116, upd_same⟩
    have z116 := S.new1 w116
    have y116_M1 : g116 ≠ M1 := fun z => by rw [z, hd_M1] at w116; cases w116
    have y116_D1 : g116 ≠ D1 := fun z => by rw [z, hd_D1] at w116; cases w116
    rw [← q116]
    replace S := S.same e116
    replace tb := tb.same e116
    replace hd_M1 := e116.get hd_M1
    replace hd_D1 := e116.get hd_D1
    replace tp := tp.same e116
    replace pp := pp.same e116
    replace ss := ss.same e116
    replace sq := sq.same e116
    replace h_np := h_np.same e116
    replace h_ns := h_ns.same e116
    replace h_nl := h_nl.same e116
    replace h_nr := h_nr.same e116
    replace h_fw := h_fw.same e116
    replace h_cr := h_cr.same e116
    replace h_mn := h_mn.same e116
    replace R80 := R80.same e116
    replace h_x1 := h_x1.same e116
    replace h_x2 := h_x2.same e116
    replace h_x3 := h_x3.same e116
    replace R92 := R92.same e116
    replace R97 := R97.same e116
    replace R103 := R103.same e116
    replace R111 := R111.same e116
    replace nn := nn.same e116
    replace gt := gt.same e116
    replace gg := gg.same e116
    replace bb := bb.same e116
    have rr : Sta [M1, D1] s K116 (fun H => H g116 = some (HO.lst [.ref g113, .ref g114, .ref g115])) := Sta.lst z116 (by simp only [List.mem_cons, List.not_mem_nil, or_false, not_or]; exact ⟨y116_M1, y116_D1⟩) N116
    clear q116 w116 N116 z116 e116
    have R116 : Sta [M1, D1] s K116 (fun H => RowS K H 8 (.ref g116)) := fun H' q => row2 rfl rfl (rr H' q) (nn H' q) (gg H' q) (bb H' q) (pp H' q) (gt H' q) (h_np H' q) (h_nr H' q)
    clear rr nn gg bb
    clear gt
    refine ⟨_, _, _, rfl, rfl, hd_M1, Nat.lt_of_le_of_lt (Nat.le_of_ble_eq_true (m := 100) rfl) (line_of (by decide)), ?_⟩
    obtain ⟨K117, q117, N117⟩ : ∃ H', H' = upd K116 M1 (HO.lst (((((([V.ref g80] ++ [x1, x2, x3]) ++ [V.ref g92]) ++ [V.ref g97]) ++ [V.ref g103]) ++ [V.ref g111]) ++ [V.ref g116])) ∧ H' M1 = some (HO.lst (((((([V.ref g80] ++ [x1, x2, x3]) ++ [V.ref g92]) ++ [V.ref g97]) ++ [V.ref g103]) ++ [V.ref g111]) ++ [V.ref g116])) := ⟨_, rfl, upd_same⟩
    try dsimp only
    rw [← q117]
    replace S : Strm K117 s b := by rw [q117]; exact S.at n1_M1 n2_M1
    replace tb : Tbs T.ts K117 := by rw [q117]; exact tb.put ⟨_, hd_M1⟩
    replace hd_D1 := (show K117 D1 = K116 D1 from by rw [q117, upd_ne ne_D1_M1.symm]).trans hd_D1
    replace tp := tp.putE (D := M1) List.mem_cons_self q117
    replace pp := pp.putE (D := M1) List.mem_cons_self q117
    replace ss := ss.putE (D := M1) List.mem_cons_self q117
    replace sq := sq.putE (D := M1) List.mem_cons_self q117
    replace h_np := h_np.putE (D := M1) List.mem_cons_self q117
    replace h_ns := h_ns.putE (D := M1) List.mem_cons_self q117
    replace h_nl := h_nl.putE (D := M1) List.mem_cons_self q117
    replace h_nr := h_nr.putE (D := M1) List.mem_cons_self q117
    replace h_fw := h_fw.putE (D := M1) List.mem_cons_self q117
    replace h_cr := h_cr.putE (D := M1) List.mem_cons_self q117
    replace h_mn := h_mn.putE (D := M1) List.mem_cons_self q117
    replace R80 := R80.putE (D := M1) List.mem_cons_self q117
    replace h_x1 := h_x1.putE (D := M1) List.mem_cons_self q117
    replace h_x2 := h_x2.putE (D := M1) List.mem_cons_self q117
    replace h_x3 := h_x3.putE (D := M1) List.mem_cons_self q117
    replace R92 := R92.putE (D := M1) List.mem_cons_self q117
    replace R97 := R97.putE (D := M1) List.mem_cons_self q117
    replace R103 := R103.putE (D := M1) List.mem_cons_self q117
    replace R111 := R111.putE (D := M1) List.mem_cons_self q117
    replace R116 := R116.putE (D := M1) List.mem_cons_self q117
    clear hd_M1
    have hd_M1 := N117
    clear q117 N117
    refine ⟨_, rfl, ?_⟩
    refine ⟨_, rfl, by decide, by decide, fun D2 hD2 => ?_⟩
    obtain ⟨KD2, qD2, eD2, hd_D2⟩ : ∃ H', H' = upd K117 D2 (HO.lst []) ∧ Same K117 H' ∧ H' D2 = some (HO.lst []) := ⟨_, rfl, same_new hD2, upd_same⟩
    have n1_D2 := S.new1 hD2
    have n2_D2 := S.new2 hD2
    have ne_M1_D2 : D2 ≠ M1 := fun z => by rw [z, hd_M1] at hD2; cases hD2
    have ne_D1_D2 : D2 ≠ D1 := fun z => by rw [z, hd_D1] at hD2; cases hD2
    rw [← qD2]
    replace tp := tp.ext hD2
    replace pp := pp.ext hD2
    replace ss := ss.ext hD2
    replace sq := sq.ext hD2
    replace h_np := h_np.ext hD2
    replace h_ns := h_ns.ext hD2
    replace h_nl := h_nl.ext hD2
    replace h_nr := h_nr.ext hD2
    replace h_fw := h_fw.ext hD2
    replace h_cr := h_cr.ext hD2
    replace h_mn := h_mn.ext hD2
    replace R80 := R80.ext hD2
    replace h_x1 := h_x1.ext hD2
    replace h_x2 := h_x2.ext hD2
    replace h_x3 := h_x3.ext hD2
    replace R92 := R92.ext hD2
    replace R97 := R97.ext hD2
    replace R103 := R103.ext hD2
    replace R111 := R111.ext hD2
    replace R116 := R116.ext hD2
    have hd_M1 := eD2.get hd_M1
    have hd_D1 := eD2.get hd_D1
    replace S := S.same eD2
    replace tb := tb.same eD2
    replace tp := tp.same eD2
    replace pp := pp.same eD2
    replace ss := ss.same eD2
    replace sq := sq.same eD2
    replace h_np := h_np.same eD2
    replace h_ns := h_ns.same eD2
    replace h_nl := h_nl.same eD2
    replace h_nr := h_nr.same eD2
    replace h_fw := h_fw.same eD2
    replace h_cr := h_cr.same eD2
    replace h_mn := h_mn.same eD2
    replace R80 := R80.same eD2
    replace h_x1 := h_x1.same eD2
    replace h_x2 := h_x2.same eD2
    replace h_x3 := h_x3.same eD2
    replace R92 := R92.same eD2
    replace R97 := R97.same eD2
    replace R103 := R103.same eD2
    replace R111 := R111.same eD2
    replace R116 := R116.same eD2
    refine walk_any (walk_range (lo := 0) (n := 2)) (fun i H' => ∃ rs : List V, Strm H' s b ∧ Tbs T.ts H' ∧ ButM [D2, M1, D1] s KD2 H' ∧ H' D2 = some (.lst rs) ∧ rs.length = i ∧ (∀ x ∈ rs, Sta [D2, M1, D1] s H' (fun H => RowS K H 9 x)) ∧ H' M1 = some (HO.lst (((((([V.ref g80] ++ [x1, x2, x3]) ++ [V.ref g92]) ++ [V.ref g97]) ++ [V.ref g103]) ++ [V.ref g111]) ++ [V.ref g116])) ∧ H' D1 = some (HO.lst [x1, x2, x3])) ⟨[], S, tb, ButM.refl, hd_D2, rfl, (fun x hx => by cases hx), hd_M1, hd_D1⟩ (fun i H' _ h => trivial) ?_ ?_
    · rintro i x H1 HB hi ⟨rs, S, tb, B, hd_D2, lr, F, hd_M1, hd_D1⟩ ⟨rfl, rfl⟩
      refine ⟨rfl, yesI ?_⟩
      refine iteT ?_
      replace tp := tp.butM B
      replace pp := pp.butM B
      replace ss := ss.butM B
      replace sq := sq.butM B
      replace h_np := h_np.butM B
      replace h_ns := h_ns.butM B
      replace h_nl := h_nl.butM B
      replace h_nr := h_nr.butM B
      replace h_fw := h_fw.butM B
      replace h_cr := h_cr.butM B
      replace h_mn := h_mn.butM B
      replace R80 := R80.butM B
      replace h_x1 := h_x1.butM B
      replace h_x2 := h_x2.butM B
      replace h_x3 := h_x3.butM B
      replace R92 := R92.butM B
      replace R97 := R97.butM B
      replace R103 := R103.butM B
      replace R111 := R111.butM B
      replace R116 := R116.butM B
      refine ⟨small rfl, fun g118 w118 => ?_⟩
      obtain ⟨K118, q118, e118, N118⟩ : ∃ H', H' = upd HB g118 (HO.lst [.str "points"]) ∧ Same HB H' ∧ H' g118 = some (HO.lst [.str "points"]) := ⟨_, rfl, same_new w118, upd_same⟩
      have z118 := S.new1 w118
      have y118_D2 : g118 ≠ D2 := fun z => by rw [z, hd_D2] at w118; cases w118
      have y118_M1 : g118 ≠ M1 := fun z => by rw [z, hd_M1] at w118; cases w118
      have y118_D1 : g118 ≠ D1 := fun z => by rw [z, hd_D1] at w118; cases w118
      rw [← q118]
      replace S := S.same e118
      replace tb := tb.same e118
      replace hd_D2 := e118.get hd_D2
      replace hd_M1 := e118.get hd_M1
      replace hd_D1 := e118.get hd_D1
      replace tp := tp.same e118
      replace pp := pp.same e118
      replace ss := ss.same e118
      replace sq := sq.same e118
      replace h_np := h_np.same e118
      replace h_ns := h_ns.same e118
      replace h_nl := h_nl.same e118
      replace h_nr := h_nr.same e118
      replace h_fw := h_fw.same e118
      replace h_cr := h_cr.same e118
      replace h_mn := h_mn.same e118
      replace R80 := R80.same e118
      replace h_x1 := h_x1.same e118
      replace h_x2 := h_x2.same e118
      replace h_x3 := h_x3.same e118
      replace R92 := R92.same e118
      replace R97 := R97.same e118
      replace R103 := R103.same e118
      replace R111 := R111.same e118
      replace R116 := R116.same e118
      replace B := B.same e118
      replace F := fun x hx => (F x hx).same e118
      have nn : Sta [D2, M1, D1] s K118 (fun H => H g118 = some (HO.lst [.str "points"])) := Sta.lst z118 (by simp only [List.mem_cons, List.not_mem_nil, or_false, not_or]; exact ⟨y118_D2, y118_M1, y118_D1⟩) N118
      clear q118 w118 N118 z118 e118
      refine ⟨small rfl, fun g119 w119 => ?_⟩
      obtain ⟨K119, q119, e119, N119⟩ : ∃ H', H' = upd K118 g119 (HO.tup [.int (0), .int (0)]) ∧ Same K118 H' ∧ H' g119 = some (HO.tup [.int (0), .int (0)]) := ⟨_, rfl, same_new w119, upd_same⟩
      have z119 := S.new1 w119
      have y119_D2 : g119 ≠ D2 := fun z => by rw [z, hd_D2] at w119; cases w119
      have y119_M1 : g119 ≠ M1 := fun z => by rw [z, hd_M1] at w119; cases w119
      have y119_D1 : g119 ≠ D1 := fun z => by rw [z, hd_D1] at w119; cases w119
      rw [← q119]
      replace S := S.same e119
      replace tb := tb.same e119
      replace hd_D2 := e119.get hd_D2
      replace hd_M1 := e119.get hd_M1
      replace hd_D1 := e119.get hd_D1
      replace tp := tp.same e119
      replace pp := pp.same e119
      replace ss := ss.same e119
      replace sq := sq.same e119
      replace h_np := h_np.same e119
      replace h_ns := h_ns.same e119
      replace h_nl := h_nl.same e119
      replace h_nr := h_nr.same e119
      replace h_fw := h_fw.same e119
      replace h_cr := h_cr.same e119
      replace h_mn := h_mn.same e119
      replace R80 := R80.same e119
      replace h_x1 := h_x1.same e119
      replace h_x2 := h_x2.same e119
      replace h_x3 := h_x3.same e119
      replace R92 := R92.same e119
      replace R97 := R97.same e119
      replace R103 := R103.same e119
      replace R111 := R111.same e119
      replace R116 := R116.same e119
      replace B := B.same e119
      replace nn := nn.same e119
      replace F := fun x hx => (F x hx).same e119
      have c119 := Sta.tup (K := K) (M := [D2, M1, D1]) S (fun D h => by simp only [List.mem_cons, List.not_mem_nil, or_false] at h; rcases h with rfl | rfl | rfl <;> first | exact ⟨_, hd_D2⟩ | exact ⟨_, hd_M1⟩ | exact ⟨_, hd_D1⟩) (SqT.of N119)
      clear q119 w119 N119 z119 e119
      refine ⟨small rfl, fun g120 w120 => ?_⟩
      obtain ⟨K120, q120, e120, N120⟩ : ∃ H', H' = upd K119 g120 (HO.tup [.ref g119]) ∧ Same K119 H' ∧ H' g120 = some (HO.tup [.ref g119]) := ⟨_, rfl, same_new w120, upd_same⟩
      have z120 := S.new1 w120
      have y120_D2 : g120 ≠ D2 := fun z => by rw [z, hd_D2] at w120; cases w120
      have y120_M1 : g120 ≠ M1 := fun z => by rw [z, hd_M1] at w120; cases w120
      have y120_D1 : g120 ≠ D1 := fun z => by rw [z, hd_D1] at w120; cases w120
      rw [← q120]
      replace S := S.same e120
      replace tb := tb.same e120
      replace hd_D2 := e120.get hd_D2
      replace hd_M1 := e120.get hd_M1
      replace hd_D1 := e120.get hd_D1
      replace tp := tp.same e120
      replace pp := pp.same e120
      replace ss := ss.same e120
      replace sq := sq.same e120
      replace h_np := h_np.same e120
      replace h_ns := h_ns.same e120
      replace h_nl := h_nl.same e120
      replace h_nr := h_nr.same e120
      replace h_fw := h_fw.same e120
      replace h_cr := h_cr.same e120
      replace h_mn := h_mn.same e120
      replace R80 := R80.same e120
      replace h_x1 := h_x1.same e120
      replace h_x2 := h_x2.same e120
      replace h_x3 := h_x3.same e120
      replace R92 := R92.same e120
      replace R97 := R97.same e120
      replace R103 := R103.same e120
      replace R111 := R111.same e120
      replace R116 := R116.same e120
      replace B := B.same e120
      replace nn := nn.same e120
      replace c119 := c119.same e120
      replace F := fun x hx => (F x hx).same e120
      have c120 := Sta.tup (K := K) (M := [D2, M1, D1]) S (fun D h => by simp only [List.mem_cons, List.not_mem_nil, or_false] at h; rcases h with rfl | rfl | rfl <;> first | exact ⟨_, hd_D2⟩ | exact ⟨_, hd_M1⟩ | exact ⟨_, hd_D1⟩) (SqT.of N120)
      clear q120 w120 N120 z120 e120
      refine ⟨_, _, _, rfl, rfl, c120.here, (by simp), by decide, by decide, (by simp), fun g121 w121 => ?_⟩
      obtain ⟨K121, q121, e121, N121⟩ : ∃ H', H' = upd K120 g121 (HO.tup (List.replicate (Int.toNat 60) [V.ref g119]).flatten) ∧ Same K120 H' ∧ H' g121 = some (HO.tup (List.replicate (Int.toNat 60) [V.ref g119]).flatten) := ⟨_, rfl, same_new w121, upd_same⟩
      have z121 := S.new1 w121
      have y121_D2 : g121 ≠ D2 := fun z => by rw [z, hd_D2] at w121; cases w121
      have y121_M1 : g121 ≠ M1 := fun z => by rw [z, hd_M1] at w121; cases w121
      have y121_D1 : g121 ≠ D1 := fun z => by rw [z, hd_D1] at w121; cases w121
      rw [← q121]
      replace S := S.same e121
      replace tb := tb.same e121
      replace hd_D2 := e121.get hd_D2
      replace hd_M1 := e121.get hd_M1
      replace hd_D1 := e121.get hd_D1
      replace tp := tp.same e121
      replace pp := pp.same e121
      replace ss := ss.same e121
      replace sq := sq.same e121
      replace h_np := h_np.same e121
      replace h_ns := h_ns.same e121
      replace h_nl := h_nl.same e121
      replace h_nr := h_nr.same e121
      replace h_fw := h_fw.same e121
      replace h_cr := h_cr.same e121
      replace h_mn := h_mn.same e121
      replace R80 := R80.same e121
      replace h_x1 := h_x1.same e121
      replace h_x2 := h_x2.same e121
      replace h_x3 := h_x3.same e121
      replace R92 := R92.same e121
      replace R97 := R97.same e121
      replace R103 := R103.same e121
      replace R111 := R111.same e121
      replace R116 := R116.same e121
      replace B := B.same e121
      replace nn := nn.same e121
      replace c119 := c119.same e121
      replace c120 := c120.same e121
      replace F := fun x hx => (F x hx).same e121
      have c121 := Sta.tup (K := K) (M := [D2, M1, D1]) S (fun D h => by simp only [List.mem_cons, List.not_mem_nil, or_false] at h; rcases h with rfl | rfl | rfl <;> first | exact ⟨_, hd_D2⟩ | exact ⟨_, hd_M1⟩ | exact ⟨_, hd_D1⟩) (SqT.of N121)
      clear q121 w121 N121 z121 e121
      have gl : Sta [D2, M1, D1] s K121 (fun H => LnAt K H g121 (List.replicate 60 ((g119, 0, 0) : Zp))) := fun H' q => ⟨by rw [one_rep]; exact c121 H' q, fun z hz => by rw [List.eq_of_mem_replicate hz]; exact c119 H' q, fun z hz => by rw [List.eq_of_mem_replicate hz]; show On 0 0; unfold On; omega⟩
      clear c119 c120 c121
      have gt : Sta [D2, M1, D1] s K121 (fun H => AV K 1 60 H (.ref g121) true) := gl.map fun H h => AV.ln h (by rw [List.length_replicate]; decide) (by rw [List.length_replicate]; rfl)
      refine ⟨small rfl, fun g122 w122 => ?_⟩
      obtain ⟨K122, q122, e122, N122⟩ : ∃ H', H' = upd K121 g122 (HO.lst [.ref g121]) ∧ Same K121 H' ∧ H' g122 = some (HO.lst [.ref g121]) := ⟨_, rfl, same_new w122, upd_same⟩
      have z122 := S.new1 w122
      have y122_D2 : g122 ≠ D2 := fun z => by rw [z, hd_D2] at w122; cases w122
      have y122_M1 : g122 ≠ M1 := fun z => by rw [z, hd_M1] at w122; cases w122
      have y122_D1 : g122 ≠ D1 := fun z => by rw [z, hd_D1] at w122; cases w122
      rw [← q122]
      replace S := S.same e122
      replace tb := tb.same e122
      replace hd_D2 := e122.get hd_D2
      replace hd_M1 := e122.get hd_M1
      replace hd_D1 := e122.get hd_D1
      replace tp := tp.same e122
      replace pp := pp.same e122
      replace ss := ss.same e122
      replace sq := sq.same e122
      replace h_np := h_np.same e122
      replace h_ns := h_ns.same e122
      replace h_nl := h_nl.same e122
      replace h_nr := h_nr.same e122
      replace h_fw := h_fw.same e122
      replace h_cr := h_cr.same e122
      replace h_mn := h_mn.same e122
      replace R80 := R80.same e122
      replace h_x1 := h_x1.same e122
      replace h_x2 := h_x2.same e122
      replace h_x3 := h_x3.same e122
      replace R92 := R92.same e122
      replace R97 := R97.same e122
      replace R103 := R103.same e122
      replace R111 := R111.same e122
      replace R116 := R116.same e122
      replace B := B.same e122
      replace nn := nn.same e122
      replace gl := gl.same e122
      replace gt := gt.same e122
      replace F := fun x hx => (F x hx).same e122
      have gg : Sta [D2, M1, D1] s K122 (fun H => H g122 = some (HO.lst [.ref g121])) := Sta.lst z122 (by simp only [List.mem_cons, List.not_mem_nil, or_false, not_or]; exact ⟨y122_D2, y122_M1, y122_D1⟩) N122
      clear q122 w122 N122 z122 e122
      refine ⟨_, rfl, small rfl, fun g123 w123 => ?_⟩
      obtain ⟨K123, q123, e123, N123⟩ : ∃ H', H' = upd K122 g123 (HO.lst [mn]) ∧ Same K122 H' ∧ H' g123 = some (HO.lst [mn]) := ⟨_, rfl, same_new w123, upd_same⟩
      have z123 := S.new1 w123
      have y123_D2 : g123 ≠ D2 := fun z => by rw [z, hd_D2] at w123; cases w123
      have y123_M1 : g123 ≠ M1 := fun z => by rw [z, hd_M1] at w123; cases w123
      have y123_D1 : g123 ≠ D1 := fun z => by rw [z, hd_D1] at w123; cases w123
      rw [← q123]
      replace S := S.same e123
      replace tb := tb.same e123
      replace hd_D2 := e123.get hd_D2
      replace hd_M1 := e123.get hd_M1
      replace hd_D1 := e123.get hd_D1
      replace tp := tp.same e123
      replace pp := pp.same e123
      replace ss := ss.same e123
      replace sq := sq.same e123
      replace h_np := h_np.same e123
      replace h_ns := h_ns.same e123
      replace h_nl := h_nl.same e123
      replace h_nr := h_nr.same e123
      replace h_fw := h_fw.same e123
      replace h_cr := h_cr.same e123
      replace h_mn := h_mn.same e123
      replace R80 := R80.same e123
      replace h_x1 := h_x1.same e123
      replace h_x2 := h_x2.same e123
      replace h_x3 := h_x3.same e123
      replace R92 := R92.same e123
      replace R97 := R97.same e123
      replace R103 := R103.same e123
      replace R111 := R111.same e123
      replace R116 := R116.same e123
      replace B := B.same e123
      replace nn := nn.same e123
      replace gl := gl.same e123
      replace gt := gt.same e123
      replace gg := gg.same e123
      replace F := fun x hx => (F x hx).same e123
      have bb : Sta [D2, M1, D1] s K123 (fun H => H g123 = some (HO.lst [mn])) := Sta.lst z123 (by simp only [List.mem_cons, List.not_mem_nil, or_false, not_or]; exact ⟨y123_D2, y123_M1, y123_D1⟩) N123
      clear q123 w123 N123 z123 e123
      refine ⟨small rfl, fun g124 w124 => ?_⟩
      obtain ⟨K124, q124, e124, N124⟩ : ∃ H', H' = upd K123 g124 (HO.lst [.ref g118, .ref g122, .ref g123]) ∧ Same K123 H' ∧ H' g124 = some (HO.lst [.ref g118, .ref g122, .ref g123]) := ⟨_, rfl, same_new w124, upd_same⟩
      have z124 := S.new1 w124
      have y124_D2 : g124 ≠ D2 := fun z => by rw [z, hd_D2] at w124; cases w124
      have y124_M1 : g124 ≠ M1 := fun z => by rw [z, hd_M1] at w124; cases w124
      have y124_D1 : g124 ≠ D1 := fun z => by rw [z, hd_D1] at w124; cases w124
      rw [← q124]
      replace S := S.same e124
      replace tb := tb.same e124
      replace hd_D2 := e124.get hd_D2
      replace hd_M1 := e124.get hd_M1
      replace hd_D1 := e124.get hd_D1
      replace tp := tp.same e124
      replace pp := pp.same e124
      replace ss := ss.same e124
      replace sq := sq.same e124
      replace h_np := h_np.same e124
      replace h_ns := h_ns.same e124
      replace h_nl := h_nl.same e124
      replace h_nr := h_nr.same e124
      replace h_fw := h_fw.same e124
      replace h_cr := h_cr.same e124
      replace h_mn := h_mn.same e124
      replace R80 := R80.same e124
      replace h_x1 := h_x1.same e124
      replace h_x2 := h_x2.same e124
      replace h_x3 := h_x3.same e124
      replace R92 := R92.same e124
      replace R97 := R97.same e124
      replace R103 := R103.same e124
      replace R111 := R111.same e124
      replace R116 := R116.same e124
      replace B := B.same e124
      replace nn := nn.same e124
      replace gl := gl.same e124
      replace gt := gt.same e124
      replace gg := gg.same e124
      replace bb := bb.same e124
      replace F := fun x hx => (F x hx).same e124
      have rr : Sta [D2, M1, D1] s K124 (fun H => H g124 = some (HO.lst [.ref g118, .ref g122, .ref g123])) := Sta.lst z124 (by simp only [List.mem_cons, List.not_mem_nil, or_false, not_or]; exact ⟨y124_D2, y124_M1, y124_D1⟩) N124
      clear q124 w124 N124 z124 e124
      have R124 : Sta [D2, M1, D1] s K124 (fun H => RowS K H 9 (.ref g124)) := fun H' q => row1 rfl rfl (rr H' q) (nn H' q) (gg H' q) (bb H' q) (gt H' q) (h_mn H' q)
      clear rr nn gg bb
      clear gl gt
      refine ⟨_, hd_D2, line_of (by omega), rs ++ [.ref g124], S.at n1_D2 n2_D2, tb.put ⟨_, hd_D2⟩, B.putE (D := D2) (by simp) rfl, upd_same, by rw [List.length_append, lr]; rfl, fun y hy => ?_, by rw [upd_ne ne_M1_D2.symm]; exact hd_M1, by rw [upd_ne ne_D1_D2.symm]; exact hd_D1⟩
      rcases List.mem_append.mp hy with hy | hy
      · exact (F y hy).put (by simp)
      · rw [List.mem_singleton] at hy; subst hy; exact R124.put (by simp)
    rintro HE ⟨rs, S, tb, B, hd_D2, lr, F, hd_M1, hd_D1⟩
    replace tp := tp.butM B
    replace pp := pp.butM B
    replace ss := ss.butM B
    replace sq := sq.butM B
    replace h_np := h_np.butM B
    replace h_ns := h_ns.butM B
    replace h_nl := h_nl.butM B
    replace h_nr := h_nr.butM B
    replace h_fw := h_fw.butM B
    replace h_cr := h_cr.butM B
    replace h_mn := h_mn.butM B
    replace R80 := R80.butM B
    replace h_x1 := h_x1.butM B
    replace h_x2 := h_x2.butM B
    replace h_x3 := h_x3.butM B
    replace R92 := R92.butM B
    replace R97 := R97.butM B
    replace R103 := R103.butM B
    replace R111 := R111.butM B
    replace R116 := R116.butM B
    clear B
    obtain ⟨y1, y2, rfl⟩ := two_of17 lr
    have h_y1 := F y1 (by simp)
    have h_y2 := F y2 (by simp)
    clear F
    refine ⟨_, _, _, _, rfl, rfl, hd_M1, hd_D2, small rfl, fun g125 w125 => ?_⟩
    obtain ⟨K125, q125, e125, N125⟩ : ∃ H', H' = upd HE g125 (HO.lst ((((((([V.ref g80] ++ [x1, x2, x3]) ++ [V.ref g92]) ++ [V.ref g97]) ++ [V.ref g103]) ++ [V.ref g111]) ++ [V.ref g116]) ++ [y1, y2])) ∧ Same HE H' ∧ H' g125 = some (HO.lst ((((((([V.ref g80] ++ [x1, x2, x3]) ++ [V.ref g92]) ++ [V.ref g97]) ++ [V.ref g103]) ++ [V.ref g111]) ++ [V.ref g116]) ++ [y1, y2])) := ⟨_, rfl, same_new w125, upd_same⟩
    have z125 := S.new1 w125
    have y125_D2 : g125 ≠ D2 := fun z => by rw [z, hd_D2] at w125; cases w125
    have y125_M1 : g125 ≠ M1 := fun z => by rw [z, hd_M1] at w125; cases w125
    have y125_D1 : g125 ≠ D1 := fun z => by rw [z, hd_D1] at w125; cases w125
    rw [← q125]
    replace S := S.same e125
    replace tb := tb.same e125
    replace hd_D2 := e125.get hd_D2
    replace hd_M1 := e125.get hd_M1
    replace hd_D1 := e125.get hd_D1
    replace tp := tp.same e125
    replace pp := pp.same e125
    replace ss := ss.same e125
    replace sq := sq.same e125
    replace h_np := h_np.same e125
    replace h_ns := h_ns.same e125
    replace h_nl := h_nl.same e125
    replace h_nr := h_nr.same e125
    replace h_fw := h_fw.same e125
    replace h_cr := h_cr.same e125
    replace h_mn := h_mn.same e125
    replace R80 := R80.same e125
    replace h_x1 := h_x1.same e125
    replace h_x2 := h_x2.same e125
    replace h_x3 := h_x3.same e125
    replace R92 := R92.same e125
    replace R97 := R97.same e125
    replace R103 := R103.same e125
    replace R111 := R111.same e125
    replace R116 := R116.same e125
    replace h_y1 := h_y1.same e125
    replace h_y2 := h_y2.same e125
    have rows2 : Sta [D2, M1, D1] s K125 (fun H => H g125 = some (HO.lst ((((((([V.ref g80] ++ [x1, x2, x3]) ++ [V.ref g92]) ++ [V.ref g97]) ++ [V.ref g103]) ++ [V.ref g111]) ++ [V.ref g116]) ++ [y1, y2]))) := Sta.lst z125 (by simp only [List.mem_cons, List.not_mem_nil, or_false, not_or]; exact ⟨y125_D2, y125_M1, y125_D1⟩) N125
    clear q125 w125 N125 z125 e125
    refine ⟨_, rfl, _, _, _, rfl, by decide, by decide, S, fun dw KW a0 a1 SW BW => ?_⟩
    replace tb := tb.but BW S.lst
    replace tp := tp.but BW
    replace pp := pp.but BW
    replace ss := ss.but BW
    replace sq := sq.but BW
    replace h_np := h_np.but BW
    replace h_ns := h_ns.but BW
    replace h_nl := h_nl.but BW
    replace h_nr := h_nr.but BW
    replace h_fw := h_fw.but BW
    replace h_cr := h_cr.but BW
    replace h_mn := h_mn.but BW
    replace R80 := R80.but BW
    replace h_x1 := h_x1.but BW
    replace h_x2 := h_x2.but BW
    replace h_x3 := h_x3.but BW
    replace R92 := R92.but BW
    replace R97 := R97.but BW
    replace R103 := R103.but BW
    replace R111 := R111.but BW
    replace R116 := R116.but BW
    replace h_y1 := h_y1.but BW
    replace h_y2 := h_y2.but BW
    replace rows2 := rows2.but BW
    clear S BW
    obtain ⟨wn, rfl⟩ : ∃ w : Nat, dw = (w : Int) := ⟨dw.toNat, by omega⟩
    have hw : wn < 11 := by omega
    have pick : ∃ v, ((((((([V.ref g80] ++ [x1, x2, x3]) ++ [V.ref g92]) ++ [V.ref g97]) ++ [V.ref g103]) ++ [V.ref g111]) ++ [V.ref g116]) ++ [y1, y2])[wn]? = some v ∧ RowS K KW wn v := by
      rcases (show wn = 0 ∨ wn = 1 ∨ wn = 2 ∨ wn = 3 ∨ wn = 4 ∨ wn = 5 ∨ wn = 6 ∨ wn = 7 ∨ wn = 8 ∨ wn = 9 ∨ wn = 10 by omega) with rfl | rfl | rfl | rfl | rfl | rfl | rfl | rfl | rfl | rfl | rfl
      · exact ⟨_, rfl, R80.here⟩
      · exact ⟨_, rfl, h_x1.here⟩
      · exact ⟨_, rfl, rowS_two h_x2.here⟩
      · exact ⟨_, rfl, rowS_three h_x3.here⟩
      · exact ⟨_, rfl, R92.here⟩
      · exact ⟨_, rfl, R97.here⟩
      · exact ⟨_, rfl, R103.here⟩
      · exact ⟨_, rfl, R111.here⟩
      · exact ⟨_, rfl, R116.here⟩
      · exact ⟨_, rfl, h_y1.here⟩
      · exact ⟨_, rfl, rowS_ten h_y2.here⟩
    obtain ⟨v, hv, r, nl_, gl_, bl_, gv, bv, rfl, RA⟩ := pick
    refine ⟨_, rfl, _, rfl, _, _, _, _, rfl, rfl, SqL.of rows2.here, atI_nat hv, ?_⟩
    clear tp pp ss sq h_np h_ns h_nl h_nr h_fw h_cr h_mn R80 h_x1 h_x2 h_x3 R92 R97 R103 R111 R116 h_y1 h_y2 rows2
    refine ⟨_, _, rfl, SqL.of RA.r, rfl, _, _, rfl, _, _, rfl, _, _, rfl, rfl, ?_⟩
    try dsimp only
    refine ⟨_, rfl, _, rfl, wn, gl_, gv, "", rfl, by omega, SqL.of RA.g, RA.good, tb, fun HA sA => ⟨rfl, _, rfl, (if_neg (by rw [decide_eq_true rfl]; decide)).mpr ?_⟩⟩
    replace RA := RA.same sA
    replace tb := tb.same sA
    have ln3 := names_len wn
    have lnn : ((namesOf wn).map V.str).length = (namesOf wn).length := List.length_map _
    refine ⟨_, rfl, _, _, rfl, .inl ⟨_, SqL.of RA.n, rfl⟩, _, rfl, by omega, by omega, for_range (lo := 0) (n := ((namesOf wn).map V.str).length) (fun i σ H' => (∃ o17 : Option V, σ = [some (.ref w0), some (.ref s), some (.ref g1), some (.ref g4), some (.ref g9), some np, some ns, some nl, some nr, some fw, some cr, some mn, some (.ref g125), some (.int (wn : Int)), some (.ref nl_), some (.ref gl_), some (.ref bl_), o17, none]) ∧ Same HA H') ⟨⟨_, rfl⟩, Same.refl _⟩ ?_ ?_⟩
    rotate_left
    · rintro σ HB ⟨⟨o17, rfl⟩, sB⟩
      exact fin _
    rintro i σ HB hi ⟨⟨o17, rfl⟩, sB⟩
    have RB := RA.same sB
    have tbB := tb.same sB
    obtain ⟨nm, hnm⟩ : ∃ nm, (namesOf wn)[i]? = some nm := ⟨_, List.getElem?_eq_getElem (by omega)⟩
    have lg := RB.lg
    have lb := RB.lb
    refine ⟨_, rfl, _, rfl, noPart ⟨_, rfl, _, rfl, _, _, rfl, SqL.of RB.g, fun q1 w1 => ?_⟩⟩
    have f1 := same_new (o := HO.lst (cutV gv none (some (0 + (i : Int))))) w1
    refine ⟨_, rfl, _, rfl, _, rfl, noPart ⟨_, _, rfl, SqL.of (f1.get RB.b), fun q2 w2 => ?_⟩⟩
    have f2 := same_new (o := HO.lst (cutV bv (some (0 + (i : Int))) none)) w2
    have e1 : cutV gv none (some (0 + (i : Int))) = gv.take i := by rw [Int.zero_add, cut_take]
    have e2 : cutV bv (some (0 + (i : Int))) none = bv.drop i := by rw [Int.zero_add, cut_drop]
    refine ⟨_, _, _, _, rfl, rfl, f2.get upd_same, upd_same, by rw [e1, e2, List.length_take, List.length_drop]; exact Nat.le_of_lt (line_of (by omega)), fun q3 w3 => ?_⟩
    have f3 := same_new (o := HO.lst (cutV gv none (some (0 + (i : Int))) ++ cutV bv (some (0 + (i : Int))) none)) w3
    have f13 := (f1.trans f2).trans f3
    refine ⟨wn, q3, gv.take i ++ bv.drop i, nm, rfl, by omega, by rw [← e1, ← e2]; exact lHere, (RB.bad i nm hnm).same f13, tbB.same f13, fun HC sC => ?_⟩
    have sAC := (sB.trans f13).trans sC
    refine ⟨_, rfl, _, rfl, _, _, _, _, rfl, rfl, SqL.of (RA.same sAC).n, at_of (j := i) (Int.zero_add _) (by rw [List.getElem?_map, hnm]; rfl), rfl, _, rfl, (if_neg (by rw [decide_eq_true rfl]; decide)).mpr ⟨⟨_, rfl⟩, sAC⟩⟩
end
theorem all_mk {l : PySem.W.OpenLaw} {w : World} {K : PySem.W.Frag} {h : Heap} {mg : Str → Option Value} {fa : Addr} {q : Program} (X : K.In h) (G : h.Ns mainGlobals mg) (hfa : mg "law" = some (.ref fa)) (TQ : TabsOf q K h)
    {od_is_whole an_is_whole : Option Addr} {sl_is_whole : Array (Option Value)} {oc_is_whole kV_is_whole dc_is_whole pm_is_whole cd_is_whole ct_is_whole : Value} {f_is_whole : Addr}
    (a_is_whole : PySem.W.nsIn K mainGlobals "is_whole" = some (some (.ref f_is_whole)))
    (l_is_whole : K.lookup f_is_whole = some ⟨oc_is_whole, od_is_whole, .func (PySem.W.fnOf "is_whole" "is_whole" (defArgs s_is_whole) (defBody s_is_whole) (defScope s_is_whole) .none kV_is_whole dc_is_whole pm_is_whole an_is_whole cd_is_whole ct_is_whole), sl_is_whole⟩)
    (c_is_whole : PySem.W.codeIn K cd_is_whole "is_whole" = true) (k_is_whole : PySem.W.keepIn K (.ref f_is_whole) = true)
    {od_is_pair an_is_pair : Option Addr} {sl_is_pair : Array (Option Value)} {oc_is_pair kV_is_pair dc_is_pair pm_is_pair cd_is_pair ct_is_pair : Value} {f_is_pair : Addr}
    (a_is_pair : PySem.W.nsIn K mainGlobals "is_pair" = some (some (.ref f_is_pair)))
    (l_is_pair : K.lookup f_is_pair = some ⟨oc_is_pair, od_is_pair, .func (PySem.W.fnOf "is_pair" "is_pair" (defArgs s_is_pair) (defBody s_is_pair) (defScope s_is_pair) .none kV_is_pair dc_is_pair pm_is_pair an_is_pair cd_is_pair ct_is_pair), sl_is_pair⟩)
    (c_is_pair : PySem.W.codeIn K cd_is_pair "is_pair" = true) (k_is_pair : PySem.W.keepIn K (.ref f_is_pair) = true)
    {od_need an_need : Option Addr} {sl_need : Array (Option Value)} {oc_need kV_need dc_need pm_need cd_need ct_need : Value} {f_need : Addr}
    (a_need : PySem.W.nsIn K mainGlobals "need" = some (some (.ref f_need)))
    (l_need : K.lookup f_need = some ⟨oc_need, od_need, .func (PySem.W.fnOf "need" "need" (defArgs s_need) (defBody s_need) (defScope s_need) .none kV_need dc_need pm_need an_need cd_need ct_need), sl_need⟩)
    (c_need : PySem.W.codeIn K cd_need "need" = true) (k_need : PySem.W.keepIn K (.ref f_need) = true)
    {od_lowest an_lowest : Option Addr} {sl_lowest : Array (Option Value)} {oc_lowest kV_lowest dc_lowest pm_lowest cd_lowest ct_lowest : Value} {f_lowest : Addr}
    (a_lowest : PySem.W.nsIn K mainGlobals "lowest" = some (some (.ref f_lowest)))
    (l_lowest : K.lookup f_lowest = some ⟨oc_lowest, od_lowest, .func (PySem.W.fnOf "lowest" "lowest" (defArgs s_lowest) (defBody s_lowest) (defScope s_lowest) .none kV_lowest dc_lowest pm_lowest an_lowest cd_lowest ct_lowest), sl_lowest⟩)
    (c_lowest : PySem.W.codeIn K cd_lowest "lowest" = true) (k_lowest : PySem.W.keepIn K (.ref f_lowest) = true)
    {od_is_fraction an_is_fraction : Option Addr} {sl_is_fraction : Array (Option Value)} {oc_is_fraction kV_is_fraction dc_is_fraction pm_is_fraction cd_is_fraction ct_is_fraction : Value} {f_is_fraction : Addr}
    (a_is_fraction : PySem.W.nsIn K mainGlobals "is_fraction" = some (some (.ref f_is_fraction)))
    (l_is_fraction : K.lookup f_is_fraction = some ⟨oc_is_fraction, od_is_fraction, .func (PySem.W.fnOf "is_fraction" "is_fraction" (defArgs s_is_fraction) (defBody s_is_fraction) (defScope s_is_fraction) .none kV_is_fraction dc_is_fraction pm_is_fraction an_is_fraction cd_is_fraction ct_is_fraction), sl_is_fraction⟩)
    (c_is_fraction : PySem.W.codeIn K cd_is_fraction "is_fraction" = true) (k_is_fraction : PySem.W.keepIn K (.ref f_is_fraction) = true)
    {od_need_both an_need_both : Option Addr} {sl_need_both : Array (Option Value)} {oc_need_both kV_need_both dc_need_both pm_need_both cd_need_both ct_need_both : Value} {f_need_both : Addr}
    (a_need_both : PySem.W.nsIn K mainGlobals "need_both" = some (some (.ref f_need_both)))
    (l_need_both : K.lookup f_need_both = some ⟨oc_need_both, od_need_both, .func (PySem.W.fnOf "need_both" "need_both" (defArgs s_need_both) (defBody s_need_both) (defScope s_need_both) .none kV_need_both dc_need_both pm_need_both an_need_both cd_need_both ct_need_both), sl_need_both⟩)
    (c_need_both : PySem.W.codeIn K cd_need_both "need_both" = true) (k_need_both : PySem.W.keepIn K (.ref f_need_both) = true)
    {od_less an_less : Option Addr} {sl_less : Array (Option Value)} {oc_less kV_less dc_less pm_less cd_less ct_less : Value} {f_less : Addr}
    (a_less : PySem.W.nsIn K mainGlobals "less" = some (some (.ref f_less)))
    (l_less : K.lookup f_less = some ⟨oc_less, od_less, .func (PySem.W.fnOf "less" "less" (defArgs s_less) (defBody s_less) (defScope s_less) .none kV_less dc_less pm_less an_less cd_less ct_less), sl_less⟩)
    (c_less : PySem.W.codeIn K cd_less "less" = true) (k_less : PySem.W.keepIn K (.ref f_less) = true)
    {od_is_coordinate an_is_coordinate : Option Addr} {sl_is_coordinate : Array (Option Value)} {oc_is_coordinate kV_is_coordinate dc_is_coordinate pm_is_coordinate cd_is_coordinate ct_is_coordinate : Value} {f_is_coordinate : Addr}
    (a_is_coordinate : PySem.W.nsIn K mainGlobals "is_coordinate" = some (some (.ref f_is_coordinate)))
    (l_is_coordinate : K.lookup f_is_coordinate = some ⟨oc_is_coordinate, od_is_coordinate, .func (PySem.W.fnOf "is_coordinate" "is_coordinate" (defArgs s_is_coordinate) (defBody s_is_coordinate) (defScope s_is_coordinate) .none kV_is_coordinate dc_is_coordinate pm_is_coordinate an_is_coordinate cd_is_coordinate ct_is_coordinate), sl_is_coordinate⟩)
    (c_is_coordinate : PySem.W.codeIn K cd_is_coordinate "is_coordinate" = true) (k_is_coordinate : PySem.W.keepIn K (.ref f_is_coordinate) = true)
    {od_is_point an_is_point : Option Addr} {sl_is_point : Array (Option Value)} {oc_is_point kV_is_point dc_is_point pm_is_point cd_is_point ct_is_point : Value} {f_is_point : Addr}
    (a_is_point : PySem.W.nsIn K mainGlobals "is_point" = some (some (.ref f_is_point)))
    (l_is_point : K.lookup f_is_point = some ⟨oc_is_point, od_is_point, .func (PySem.W.fnOf "is_point" "is_point" (defArgs s_is_point) (defBody s_is_point) (defScope s_is_point) .none kV_is_point dc_is_point pm_is_point an_is_point cd_is_point ct_is_point), sl_is_point⟩)
    (c_is_point : PySem.W.codeIn K cd_is_point "is_point" = true) (k_is_point : PySem.W.keepIn K (.ref f_is_point) = true)
    {od_is_segment an_is_segment : Option Addr} {sl_is_segment : Array (Option Value)} {oc_is_segment kV_is_segment dc_is_segment pm_is_segment cd_is_segment ct_is_segment : Value} {f_is_segment : Addr}
    (a_is_segment : PySem.W.nsIn K mainGlobals "is_segment" = some (some (.ref f_is_segment)))
    (l_is_segment : K.lookup f_is_segment = some ⟨oc_is_segment, od_is_segment, .func (PySem.W.fnOf "is_segment" "is_segment" (defArgs s_is_segment) (defBody s_is_segment) (defScope s_is_segment) .none kV_is_segment dc_is_segment pm_is_segment an_is_segment cd_is_segment ct_is_segment), sl_is_segment⟩)
    (c_is_segment : PySem.W.codeIn K cd_is_segment "is_segment" = true) (k_is_segment : PySem.W.keepIn K (.ref f_is_segment) = true)
    {od_are_points an_are_points : Option Addr} {sl_are_points : Array (Option Value)} {oc_are_points kV_are_points dc_are_points pm_are_points cd_are_points ct_are_points : Value} {f_are_points : Addr}
    (a_are_points : PySem.W.nsIn K mainGlobals "are_points" = some (some (.ref f_are_points)))
    (l_are_points : K.lookup f_are_points = some ⟨oc_are_points, od_are_points, .func (PySem.W.fnOf "are_points" "are_points" (defArgs s_are_points) (defBody s_are_points) (defScope s_are_points) .none kV_are_points dc_are_points pm_are_points an_are_points cd_are_points ct_are_points), sl_are_points⟩)
    (c_are_points : PySem.W.codeIn K cd_are_points "are_points" = true) (k_are_points : PySem.W.keepIn K (.ref f_are_points) = true)
    {od_is_line an_is_line : Option Addr} {sl_is_line : Array (Option Value)} {oc_is_line kV_is_line dc_is_line pm_is_line cd_is_line ct_is_line : Value} {f_is_line : Addr}
    (a_is_line : PySem.W.nsIn K mainGlobals "is_line" = some (some (.ref f_is_line)))
    (l_is_line : K.lookup f_is_line = some ⟨oc_is_line, od_is_line, .func (PySem.W.fnOf "is_line" "is_line" (defArgs s_is_line) (defBody s_is_line) (defScope s_is_line) .none kV_is_line dc_is_line pm_is_line an_is_line cd_is_line ct_is_line), sl_is_line⟩)
    (c_is_line : PySem.W.codeIn K cd_is_line "is_line" = true) (k_is_line : PySem.W.keepIn K (.ref f_is_line) = true)
    {od_joining an_joining : Option Addr} {sl_joining : Array (Option Value)} {oc_joining kV_joining dc_joining pm_joining cd_joining ct_joining : Value} {f_joining : Addr}
    (a_joining : PySem.W.nsIn K mainGlobals "joining" = some (some (.ref f_joining)))
    (l_joining : K.lookup f_joining = some ⟨oc_joining, od_joining, .func (PySem.W.fnOf "joining" "joining" (defArgs s_joining) (defBody s_joining) (defScope s_joining) .none kV_joining dc_joining pm_joining an_joining cd_joining ct_joining), sl_joining⟩)
    (c_joining : PySem.W.codeIn K cd_joining "joining" = true) (k_joining : PySem.W.keepIn K (.ref f_joining) = true)
    {od_edges_along an_edges_along : Option Addr} {sl_edges_along : Array (Option Value)} {oc_edges_along kV_edges_along dc_edges_along pm_edges_along cd_edges_along ct_edges_along : Value} {f_edges_along : Addr}
    (a_edges_along : PySem.W.nsIn K mainGlobals "edges_along" = some (some (.ref f_edges_along)))
    (l_edges_along : K.lookup f_edges_along = some ⟨oc_edges_along, od_edges_along, .func (PySem.W.fnOf "edges_along" "edges_along" (defArgs s_edges_along) (defBody s_edges_along) (defScope s_edges_along) .none kV_edges_along dc_edges_along pm_edges_along an_edges_along cd_edges_along ct_edges_along), sl_edges_along⟩)
    (c_edges_along : PySem.W.codeIn K cd_edges_along "edges_along" = true) (k_edges_along : PySem.W.keepIn K (.ref f_edges_along) = true)
    {od_turn_of an_turn_of : Option Addr} {sl_turn_of : Array (Option Value)} {oc_turn_of kV_turn_of dc_turn_of pm_turn_of cd_turn_of ct_turn_of : Value} {f_turn_of : Addr}
    (a_turn_of : PySem.W.nsIn K mainGlobals "turn_of" = some (some (.ref f_turn_of)))
    (l_turn_of : K.lookup f_turn_of = some ⟨oc_turn_of, od_turn_of, .func (PySem.W.fnOf "turn_of" "turn_of" (defArgs s_turn_of) (defBody s_turn_of) (defScope s_turn_of) .none kV_turn_of dc_turn_of pm_turn_of an_turn_of cd_turn_of ct_turn_of), sl_turn_of⟩)
    (c_turn_of : PySem.W.codeIn K cd_turn_of "turn_of" = true) (k_turn_of : PySem.W.keepIn K (.ref f_turn_of) = true)
    {od_is_on an_is_on : Option Addr} {sl_is_on : Array (Option Value)} {oc_is_on kV_is_on dc_is_on pm_is_on cd_is_on ct_is_on : Value} {f_is_on : Addr}
    (a_is_on : PySem.W.nsIn K mainGlobals "is_on" = some (some (.ref f_is_on)))
    (l_is_on : K.lookup f_is_on = some ⟨oc_is_on, od_is_on, .func (PySem.W.fnOf "is_on" "is_on" (defArgs s_is_on) (defBody s_is_on) (defScope s_is_on) .none kV_is_on dc_is_on pm_is_on an_is_on cd_is_on ct_is_on), sl_is_on⟩)
    (c_is_on : PySem.W.codeIn K cd_is_on "is_on" = true) (k_is_on : PySem.W.keepIn K (.ref f_is_on) = true)
    {od_crosses_east an_crosses_east : Option Addr} {sl_crosses_east : Array (Option Value)} {oc_crosses_east kV_crosses_east dc_crosses_east pm_crosses_east cd_crosses_east ct_crosses_east : Value} {f_crosses_east : Addr}
    (a_crosses_east : PySem.W.nsIn K mainGlobals "crosses_east" = some (some (.ref f_crosses_east)))
    (l_crosses_east : K.lookup f_crosses_east = some ⟨oc_crosses_east, od_crosses_east, .func (PySem.W.fnOf "crosses_east" "crosses_east" (defArgs s_crosses_east) (defBody s_crosses_east) (defScope s_crosses_east) .none kV_crosses_east dc_crosses_east pm_crosses_east an_crosses_east cd_crosses_east ct_crosses_east), sl_crosses_east⟩)
    (c_crosses_east : PySem.W.codeIn K cd_crosses_east "crosses_east" = true) (k_crosses_east : PySem.W.keepIn K (.ref f_crosses_east) = true)
    {od_foot_on an_foot_on : Option Addr} {sl_foot_on : Array (Option Value)} {oc_foot_on kV_foot_on dc_foot_on pm_foot_on cd_foot_on ct_foot_on : Value} {f_foot_on : Addr}
    (a_foot_on : PySem.W.nsIn K mainGlobals "foot_on" = some (some (.ref f_foot_on)))
    (l_foot_on : K.lookup f_foot_on = some ⟨oc_foot_on, od_foot_on, .func (PySem.W.fnOf "foot_on" "foot_on" (defArgs s_foot_on) (defBody s_foot_on) (defScope s_foot_on) .none kV_foot_on dc_foot_on pm_foot_on an_foot_on cd_foot_on ct_foot_on), sl_foot_on⟩)
    (c_foot_on : PySem.W.codeIn K cd_foot_on "foot_on" = true) (k_foot_on : PySem.W.keepIn K (.ref f_foot_on) = true)
    {od_gap_to an_gap_to : Option Addr} {sl_gap_to : Array (Option Value)} {oc_gap_to kV_gap_to dc_gap_to pm_gap_to cd_gap_to ct_gap_to : Value} {f_gap_to : Addr}
    (a_gap_to : PySem.W.nsIn K mainGlobals "gap_to" = some (some (.ref f_gap_to)))
    (l_gap_to : K.lookup f_gap_to = some ⟨oc_gap_to, od_gap_to, .func (PySem.W.fnOf "gap_to" "gap_to" (defArgs s_gap_to) (defBody s_gap_to) (defScope s_gap_to) .none kV_gap_to dc_gap_to pm_gap_to an_gap_to cd_gap_to ct_gap_to), sl_gap_to⟩)
    (c_gap_to : PySem.W.codeIn K cd_gap_to "gap_to" = true) (k_gap_to : PySem.W.keepIn K (.ref f_gap_to) = true)
    {od_turn an_turn : Option Addr} {sl_turn : Array (Option Value)} {oc_turn kV_turn dc_turn pm_turn cd_turn ct_turn : Value} {f_turn : Addr}
    (a_turn : PySem.W.nsIn K mainGlobals "turn" = some (some (.ref f_turn)))
    (l_turn : K.lookup f_turn = some ⟨oc_turn, od_turn, .func (PySem.W.fnOf "turn" "turn" (defArgs s_turn) (defBody s_turn) (defScope s_turn) .none kV_turn dc_turn pm_turn an_turn cd_turn ct_turn), sl_turn⟩)
    (c_turn : PySem.W.codeIn K cd_turn "turn" = true) (k_turn : PySem.W.keepIn K (.ref f_turn) = true)
    {od_lies_on an_lies_on : Option Addr} {sl_lies_on : Array (Option Value)} {oc_lies_on kV_lies_on dc_lies_on pm_lies_on cd_lies_on ct_lies_on : Value} {f_lies_on : Addr}
    (a_lies_on : PySem.W.nsIn K mainGlobals "lies_on" = some (some (.ref f_lies_on)))
    (l_lies_on : K.lookup f_lies_on = some ⟨oc_lies_on, od_lies_on, .func (PySem.W.fnOf "lies_on" "lies_on" (defArgs s_lies_on) (defBody s_lies_on) (defScope s_lies_on) .none kV_lies_on dc_lies_on pm_lies_on an_lies_on cd_lies_on ct_lies_on), sl_lies_on⟩)
    (c_lies_on : PySem.W.codeIn K cd_lies_on "lies_on" = true) (k_lies_on : PySem.W.keepIn K (.ref f_lies_on) = true)
    {od_foot_of an_foot_of : Option Addr} {sl_foot_of : Array (Option Value)} {oc_foot_of kV_foot_of dc_foot_of pm_foot_of cd_foot_of ct_foot_of : Value} {f_foot_of : Addr}
    (a_foot_of : PySem.W.nsIn K mainGlobals "foot_of" = some (some (.ref f_foot_of)))
    (l_foot_of : K.lookup f_foot_of = some ⟨oc_foot_of, od_foot_of, .func (PySem.W.fnOf "foot_of" "foot_of" (defArgs s_foot_of) (defBody s_foot_of) (defScope s_foot_of) .none kV_foot_of dc_foot_of pm_foot_of an_foot_of cd_foot_of ct_foot_of), sl_foot_of⟩)
    (c_foot_of : PySem.W.codeIn K cd_foot_of "foot_of" = true) (k_foot_of : PySem.W.keepIn K (.ref f_foot_of) = true)
    {od_gap_of an_gap_of : Option Addr} {sl_gap_of : Array (Option Value)} {oc_gap_of kV_gap_of dc_gap_of pm_gap_of cd_gap_of ct_gap_of : Value} {f_gap_of : Addr}
    (a_gap_of : PySem.W.nsIn K mainGlobals "gap_of" = some (some (.ref f_gap_of)))
    (l_gap_of : K.lookup f_gap_of = some ⟨oc_gap_of, od_gap_of, .func (PySem.W.fnOf "gap_of" "gap_of" (defArgs s_gap_of) (defBody s_gap_of) (defScope s_gap_of) .none kV_gap_of dc_gap_of pm_gap_of an_gap_of cd_gap_of ct_gap_of), sl_gap_of⟩)
    (c_gap_of : PySem.W.codeIn K cd_gap_of "gap_of" = true) (k_gap_of : PySem.W.keepIn K (.ref f_gap_of) = true)
    {od_nearest_edge an_nearest_edge : Option Addr} {sl_nearest_edge : Array (Option Value)} {oc_nearest_edge kV_nearest_edge dc_nearest_edge pm_nearest_edge cd_nearest_edge ct_nearest_edge : Value} {f_nearest_edge : Addr}
    (a_nearest_edge : PySem.W.nsIn K mainGlobals "nearest_edge" = some (some (.ref f_nearest_edge)))
    (l_nearest_edge : K.lookup f_nearest_edge = some ⟨oc_nearest_edge, od_nearest_edge, .func (PySem.W.fnOf "nearest_edge" "nearest_edge" (defArgs s_nearest_edge) (defBody s_nearest_edge) (defScope s_nearest_edge) .none kV_nearest_edge dc_nearest_edge pm_nearest_edge an_nearest_edge cd_nearest_edge ct_nearest_edge), sl_nearest_edge⟩)
    (c_nearest_edge : PySem.W.codeIn K cd_nearest_edge "nearest_edge" = true) (k_nearest_edge : PySem.W.keepIn K (.ref f_nearest_edge) = true)
    {od_are_apart an_are_apart : Option Addr} {sl_are_apart : Array (Option Value)} {oc_are_apart kV_are_apart dc_are_apart pm_are_apart cd_are_apart ct_are_apart : Value} {f_are_apart : Addr}
    (a_are_apart : PySem.W.nsIn K mainGlobals "are_apart" = some (some (.ref f_are_apart)))
    (l_are_apart : K.lookup f_are_apart = some ⟨oc_are_apart, od_are_apart, .func (PySem.W.fnOf "are_apart" "are_apart" (defArgs s_are_apart) (defBody s_are_apart) (defScope s_are_apart) .none kV_are_apart dc_are_apart pm_are_apart an_are_apart cd_are_apart ct_are_apart), sl_are_apart⟩)
    (c_are_apart : PySem.W.codeIn K cd_are_apart "are_apart" = true) (k_are_apart : PySem.W.keepIn K (.ref f_are_apart) = true)
    {od_meeting_on_line an_meeting_on_line : Option Addr} {sl_meeting_on_line : Array (Option Value)} {oc_meeting_on_line kV_meeting_on_line dc_meeting_on_line pm_meeting_on_line cd_meeting_on_line ct_meeting_on_line : Value} {f_meeting_on_line : Addr}
    (a_meeting_on_line : PySem.W.nsIn K mainGlobals "meeting_on_line" = some (some (.ref f_meeting_on_line)))
    (l_meeting_on_line : K.lookup f_meeting_on_line = some ⟨oc_meeting_on_line, od_meeting_on_line, .func (PySem.W.fnOf "meeting_on_line" "meeting_on_line" (defArgs s_meeting_on_line) (defBody s_meeting_on_line) (defScope s_meeting_on_line) .none kV_meeting_on_line dc_meeting_on_line pm_meeting_on_line an_meeting_on_line cd_meeting_on_line ct_meeting_on_line), sl_meeting_on_line⟩)
    (c_meeting_on_line : PySem.W.codeIn K cd_meeting_on_line "meeting_on_line" = true) (k_meeting_on_line : PySem.W.keepIn K (.ref f_meeting_on_line) = true)
    {od_common_end an_common_end : Option Addr} {sl_common_end : Array (Option Value)} {oc_common_end kV_common_end dc_common_end pm_common_end cd_common_end ct_common_end : Value} {f_common_end : Addr}
    (a_common_end : PySem.W.nsIn K mainGlobals "common_end" = some (some (.ref f_common_end)))
    (l_common_end : K.lookup f_common_end = some ⟨oc_common_end, od_common_end, .func (PySem.W.fnOf "common_end" "common_end" (defArgs s_common_end) (defBody s_common_end) (defScope s_common_end) .none kV_common_end dc_common_end pm_common_end an_common_end cd_common_end ct_common_end), sl_common_end⟩)
    (c_common_end : PySem.W.codeIn K cd_common_end "common_end" = true) (k_common_end : PySem.W.keepIn K (.ref f_common_end) = true)
    {od_cut_point an_cut_point : Option Addr} {sl_cut_point : Array (Option Value)} {oc_cut_point kV_cut_point dc_cut_point pm_cut_point cd_cut_point ct_cut_point : Value} {f_cut_point : Addr}
    (a_cut_point : PySem.W.nsIn K mainGlobals "cut_point" = some (some (.ref f_cut_point)))
    (l_cut_point : K.lookup f_cut_point = some ⟨oc_cut_point, od_cut_point, .func (PySem.W.fnOf "cut_point" "cut_point" (defArgs s_cut_point) (defBody s_cut_point) (defScope s_cut_point) .none kV_cut_point dc_cut_point pm_cut_point an_cut_point cd_cut_point ct_cut_point), sl_cut_point⟩)
    (c_cut_point : PySem.W.codeIn K cd_cut_point "cut_point" = true) (k_cut_point : PySem.W.keepIn K (.ref f_cut_point) = true)
    {od_meeting_of an_meeting_of : Option Addr} {sl_meeting_of : Array (Option Value)} {oc_meeting_of kV_meeting_of dc_meeting_of pm_meeting_of cd_meeting_of ct_meeting_of : Value} {f_meeting_of : Addr}
    (a_meeting_of : PySem.W.nsIn K mainGlobals "meeting_of" = some (some (.ref f_meeting_of)))
    (l_meeting_of : K.lookup f_meeting_of = some ⟨oc_meeting_of, od_meeting_of, .func (PySem.W.fnOf "meeting_of" "meeting_of" (defArgs s_meeting_of) (defBody s_meeting_of) (defScope s_meeting_of) .none kV_meeting_of dc_meeting_of pm_meeting_of an_meeting_of cd_meeting_of ct_meeting_of), sl_meeting_of⟩)
    (c_meeting_of : PySem.W.codeIn K cd_meeting_of "meeting_of" = true) (k_meeting_of : PySem.W.keepIn K (.ref f_meeting_of) = true)
    {od_meeting an_meeting : Option Addr} {sl_meeting : Array (Option Value)} {oc_meeting kV_meeting dc_meeting pm_meeting cd_meeting ct_meeting : Value} {f_meeting : Addr}
    (a_meeting : PySem.W.nsIn K mainGlobals "meeting" = some (some (.ref f_meeting)))
    (l_meeting : K.lookup f_meeting = some ⟨oc_meeting, od_meeting, .func (PySem.W.fnOf "meeting" "meeting" (defArgs s_meeting) (defBody s_meeting) (defScope s_meeting) .none kV_meeting dc_meeting pm_meeting an_meeting cd_meeting ct_meeting), sl_meeting⟩)
    (c_meeting : PySem.W.codeIn K cd_meeting "meeting" = true) (k_meeting : PySem.W.keepIn K (.ref f_meeting) = true)
    {od_ways_around an_ways_around : Option Addr} {sl_ways_around : Array (Option Value)} {oc_ways_around kV_ways_around dc_ways_around pm_ways_around cd_ways_around ct_ways_around : Value} {f_ways_around : Addr}
    (a_ways_around : PySem.W.nsIn K mainGlobals "ways_around" = some (some (.ref f_ways_around)))
    (l_ways_around : K.lookup f_ways_around = some ⟨oc_ways_around, od_ways_around, .func (PySem.W.fnOf "ways_around" "ways_around" (defArgs s_ways_around) (defBody s_ways_around) (defScope s_ways_around) .none kV_ways_around dc_ways_around pm_ways_around an_ways_around cd_ways_around ct_ways_around), sl_ways_around⟩)
    (c_ways_around : PySem.W.codeIn K cd_ways_around "ways_around" = true) (k_ways_around : PySem.W.keepIn K (.ref f_ways_around) = true)
    {od_area_around an_area_around : Option Addr} {sl_area_around : Array (Option Value)} {oc_area_around kV_area_around dc_area_around pm_area_around cd_area_around ct_area_around : Value} {f_area_around : Addr}
    (a_area_around : PySem.W.nsIn K mainGlobals "area_around" = some (some (.ref f_area_around)))
    (l_area_around : K.lookup f_area_around = some ⟨oc_area_around, od_area_around, .func (PySem.W.fnOf "area_around" "area_around" (defArgs s_area_around) (defBody s_area_around) (defScope s_area_around) .none kV_area_around dc_area_around pm_area_around an_area_around cd_area_around ct_area_around), sl_area_around⟩)
    (c_area_around : PySem.W.codeIn K cd_area_around "area_around" = true) (k_area_around : PySem.W.keepIn K (.ref f_area_around) = true)
    {od_do_follow an_do_follow : Option Addr} {sl_do_follow : Array (Option Value)} {oc_do_follow kV_do_follow dc_do_follow pm_do_follow cd_do_follow ct_do_follow : Value} {f_do_follow : Addr}
    (a_do_follow : PySem.W.nsIn K mainGlobals "do_follow" = some (some (.ref f_do_follow)))
    (l_do_follow : K.lookup f_do_follow = some ⟨oc_do_follow, od_do_follow, .func (PySem.W.fnOf "do_follow" "do_follow" (defArgs s_do_follow) (defBody s_do_follow) (defScope s_do_follow) .none kV_do_follow dc_do_follow pm_do_follow an_do_follow cd_do_follow ct_do_follow), sl_do_follow⟩)
    (c_do_follow : PySem.W.codeIn K cd_do_follow "do_follow" = true) (k_do_follow : PySem.W.keepIn K (.ref f_do_follow) = true)
    {od_is_simple an_is_simple : Option Addr} {sl_is_simple : Array (Option Value)} {oc_is_simple kV_is_simple dc_is_simple pm_is_simple cd_is_simple ct_is_simple : Value} {f_is_simple : Addr}
    (a_is_simple : PySem.W.nsIn K mainGlobals "is_simple" = some (some (.ref f_is_simple)))
    (l_is_simple : K.lookup f_is_simple = some ⟨oc_is_simple, od_is_simple, .func (PySem.W.fnOf "is_simple" "is_simple" (defArgs s_is_simple) (defBody s_is_simple) (defScope s_is_simple) .none kV_is_simple dc_is_simple pm_is_simple an_is_simple cd_is_simple ct_is_simple), sl_is_simple⟩)
    (c_is_simple : PySem.W.codeIn K cd_is_simple "is_simple" = true) (k_is_simple : PySem.W.keepIn K (.ref f_is_simple) = true)
    {od_goes_around an_goes_around : Option Addr} {sl_goes_around : Array (Option Value)} {oc_goes_around kV_goes_around dc_goes_around pm_goes_around cd_goes_around ct_goes_around : Value} {f_goes_around : Addr}
    (a_goes_around : PySem.W.nsIn K mainGlobals "goes_around" = some (some (.ref f_goes_around)))
    (l_goes_around : K.lookup f_goes_around = some ⟨oc_goes_around, od_goes_around, .func (PySem.W.fnOf "goes_around" "goes_around" (defArgs s_goes_around) (defBody s_goes_around) (defScope s_goes_around) .none kV_goes_around dc_goes_around pm_goes_around an_goes_around cd_goes_around ct_goes_around), sl_goes_around⟩)
    (c_goes_around : PySem.W.codeIn K cd_goes_around "goes_around" = true) (k_goes_around : PySem.W.keepIn K (.ref f_goes_around) = true)
    {od_is_ring an_is_ring : Option Addr} {sl_is_ring : Array (Option Value)} {oc_is_ring kV_is_ring dc_is_ring pm_is_ring cd_is_ring ct_is_ring : Value} {f_is_ring : Addr}
    (a_is_ring : PySem.W.nsIn K mainGlobals "is_ring" = some (some (.ref f_is_ring)))
    (l_is_ring : K.lookup f_is_ring = some ⟨oc_is_ring, od_is_ring, .func (PySem.W.fnOf "is_ring" "is_ring" (defArgs s_is_ring) (defBody s_is_ring) (defScope s_is_ring) .none kV_is_ring dc_is_ring pm_is_ring an_is_ring cd_is_ring ct_is_ring), sl_is_ring⟩)
    (c_is_ring : PySem.W.codeIn K cd_is_ring "is_ring" = true) (k_is_ring : PySem.W.keepIn K (.ref f_is_ring) = true)
    {od_ring_of an_ring_of : Option Addr} {sl_ring_of : Array (Option Value)} {oc_ring_of kV_ring_of dc_ring_of pm_ring_of cd_ring_of ct_ring_of : Value} {f_ring_of : Addr}
    (a_ring_of : PySem.W.nsIn K mainGlobals "ring_of" = some (some (.ref f_ring_of)))
    (l_ring_of : K.lookup f_ring_of = some ⟨oc_ring_of, od_ring_of, .func (PySem.W.fnOf "ring_of" "ring_of" (defArgs s_ring_of) (defBody s_ring_of) (defScope s_ring_of) .none kV_ring_of dc_ring_of pm_ring_of an_ring_of cd_ring_of ct_ring_of), sl_ring_of⟩)
    (c_ring_of : PySem.W.codeIn K cd_ring_of "ring_of" = true) (k_ring_of : PySem.W.keepIn K (.ref f_ring_of) = true)
    {od_size_of an_size_of : Option Addr} {sl_size_of : Array (Option Value)} {oc_size_of kV_size_of dc_size_of pm_size_of cd_size_of ct_size_of : Value} {f_size_of : Addr}
    (a_size_of : PySem.W.nsIn K mainGlobals "size_of" = some (some (.ref f_size_of)))
    (l_size_of : K.lookup f_size_of = some ⟨oc_size_of, od_size_of, .func (PySem.W.fnOf "size_of" "size_of" (defArgs s_size_of) (defBody s_size_of) (defScope s_size_of) .none kV_size_of dc_size_of pm_size_of an_size_of cd_size_of ct_size_of), sl_size_of⟩)
    (c_size_of : PySem.W.codeIn K cd_size_of "size_of" = true) (k_size_of : PySem.W.keepIn K (.ref f_size_of) = true)
    {od_place_in an_place_in : Option Addr} {sl_place_in : Array (Option Value)} {oc_place_in kV_place_in dc_place_in pm_place_in cd_place_in ct_place_in : Value} {f_place_in : Addr}
    (a_place_in : PySem.W.nsIn K mainGlobals "place_in" = some (some (.ref f_place_in)))
    (l_place_in : K.lookup f_place_in = some ⟨oc_place_in, od_place_in, .func (PySem.W.fnOf "place_in" "place_in" (defArgs s_place_in) (defBody s_place_in) (defScope s_place_in) .none kV_place_in dc_place_in pm_place_in an_place_in cd_place_in ct_place_in), sl_place_in⟩)
    (c_place_in : PySem.W.codeIn K cd_place_in "place_in" = true) (k_place_in : PySem.W.keepIn K (.ref f_place_in) = true)
    {od_left_turns an_left_turns : Option Addr} {sl_left_turns : Array (Option Value)} {oc_left_turns kV_left_turns dc_left_turns pm_left_turns cd_left_turns ct_left_turns : Value} {f_left_turns : Addr}
    (a_left_turns : PySem.W.nsIn K mainGlobals "left_turns" = some (some (.ref f_left_turns)))
    (l_left_turns : K.lookup f_left_turns = some ⟨oc_left_turns, od_left_turns, .func (PySem.W.fnOf "left_turns" "left_turns" (defArgs s_left_turns) (defBody s_left_turns) (defScope s_left_turns) .none kV_left_turns dc_left_turns pm_left_turns an_left_turns cd_left_turns ct_left_turns), sl_left_turns⟩)
    (c_left_turns : PySem.W.codeIn K cd_left_turns "left_turns" = true) (k_left_turns : PySem.W.keepIn K (.ref f_left_turns) = true)
    {od_hull_of an_hull_of : Option Addr} {sl_hull_of : Array (Option Value)} {oc_hull_of kV_hull_of dc_hull_of pm_hull_of cd_hull_of ct_hull_of : Value} {f_hull_of : Addr}
    (a_hull_of : PySem.W.nsIn K mainGlobals "hull_of" = some (some (.ref f_hull_of)))
    (l_hull_of : K.lookup f_hull_of = some ⟨oc_hull_of, od_hull_of, .func (PySem.W.fnOf "hull_of" "hull_of" (defArgs s_hull_of) (defBody s_hull_of) (defScope s_hull_of) .none kV_hull_of dc_hull_of pm_hull_of an_hull_of cd_hull_of ct_hull_of), sl_hull_of⟩)
    (c_hull_of : PySem.W.codeIn K cd_hull_of "hull_of" = true) (k_hull_of : PySem.W.keepIn K (.ref f_hull_of) = true)
    {od_are_corners an_are_corners : Option Addr} {sl_are_corners : Array (Option Value)} {oc_are_corners kV_are_corners dc_are_corners pm_are_corners cd_are_corners ct_are_corners : Value} {f_are_corners : Addr}
    (a_are_corners : PySem.W.nsIn K mainGlobals "are_corners" = some (some (.ref f_are_corners)))
    (l_are_corners : K.lookup f_are_corners = some ⟨oc_are_corners, od_are_corners, .func (PySem.W.fnOf "are_corners" "are_corners" (defArgs s_are_corners) (defBody s_are_corners) (defScope s_are_corners) .none kV_are_corners dc_are_corners pm_are_corners an_are_corners cd_are_corners ct_are_corners), sl_are_corners⟩)
    (c_are_corners : PySem.W.codeIn K cd_are_corners "are_corners" = true) (k_are_corners : PySem.W.keepIn K (.ref f_are_corners) = true)
    {od_turns_left an_turns_left : Option Addr} {sl_turns_left : Array (Option Value)} {oc_turns_left kV_turns_left dc_turns_left pm_turns_left cd_turns_left ct_turns_left : Value} {f_turns_left : Addr}
    (a_turns_left : PySem.W.nsIn K mainGlobals "turns_left" = some (some (.ref f_turns_left)))
    (l_turns_left : K.lookup f_turns_left = some ⟨oc_turns_left, od_turns_left, .func (PySem.W.fnOf "turns_left" "turns_left" (defArgs s_turns_left) (defBody s_turns_left) (defScope s_turns_left) .none kV_turns_left dc_turns_left pm_turns_left an_turns_left cd_turns_left ct_turns_left), sl_turns_left⟩)
    (c_turns_left : PySem.W.codeIn K cd_turns_left "turns_left" = true) (k_turns_left : PySem.W.keepIn K (.ref f_turns_left) = true)
    {od_is_hull an_is_hull : Option Addr} {sl_is_hull : Array (Option Value)} {oc_is_hull kV_is_hull dc_is_hull pm_is_hull cd_is_hull ct_is_hull : Value} {f_is_hull : Addr}
    (a_is_hull : PySem.W.nsIn K mainGlobals "is_hull" = some (some (.ref f_is_hull)))
    (l_is_hull : K.lookup f_is_hull = some ⟨oc_is_hull, od_is_hull, .func (PySem.W.fnOf "is_hull" "is_hull" (defArgs s_is_hull) (defBody s_is_hull) (defScope s_is_hull) .none kV_is_hull dc_is_hull pm_is_hull an_is_hull cd_is_hull ct_is_hull), sl_is_hull⟩)
    (c_is_hull : PySem.W.codeIn K cd_is_hull "is_hull" = true) (k_is_hull : PySem.W.keepIn K (.ref f_is_hull) = true)
    {od__law_stream an__law_stream : Option Addr} {sl__law_stream : Array (Option Value)} {oc__law_stream kV__law_stream dc__law_stream pm__law_stream cd__law_stream ct__law_stream : Value} {f__law_stream : Addr}
    (a__law_stream : PySem.W.nsIn K mainGlobals "_law_stream" = some (some (.ref f__law_stream)))
    (l__law_stream : K.lookup f__law_stream = some ⟨oc__law_stream, od__law_stream, .func (PySem.W.fnOf "_law_stream" "_law_stream" (defArgs s__law_stream) (defBody s__law_stream) (defScope s__law_stream) .none kV__law_stream dc__law_stream pm__law_stream an__law_stream cd__law_stream ct__law_stream), sl__law_stream⟩)
    (c__law_stream : PySem.W.codeIn K cd__law_stream "_law_stream" = true) (k__law_stream : PySem.W.keepIn K (.ref f__law_stream) = true)
    {od__law_next an__law_next : Option Addr} {sl__law_next : Array (Option Value)} {oc__law_next kV__law_next dc__law_next pm__law_next cd__law_next ct__law_next : Value} {f__law_next : Addr}
    (a__law_next : PySem.W.nsIn K mainGlobals "_law_next" = some (some (.ref f__law_next)))
    (l__law_next : K.lookup f__law_next = some ⟨oc__law_next, od__law_next, .func (PySem.W.fnOf "_law_next" "_law_next" (defArgs s__law_next) (defBody s__law_next) (defScope s__law_next) .none kV__law_next dc__law_next pm__law_next an__law_next cd__law_next ct__law_next), sl__law_next⟩)
    (c__law_next : PySem.W.codeIn K cd__law_next "_law_next" = true) (k__law_next : PySem.W.keepIn K (.ref f__law_next) = true)
    {od__law_sides an__law_sides : Option Addr} {sl__law_sides : Array (Option Value)} {oc__law_sides kV__law_sides dc__law_sides pm__law_sides cd__law_sides ct__law_sides : Value} {f__law_sides : Addr}
    (a__law_sides : PySem.W.nsIn K mainGlobals "_law_sides" = some (some (.ref f__law_sides)))
    (l__law_sides : K.lookup f__law_sides = some ⟨oc__law_sides, od__law_sides, .func (PySem.W.fnOf "_law_sides" "_law_sides" (defArgs s__law_sides) (defBody s__law_sides) (defScope s__law_sides) .none kV__law_sides dc__law_sides pm__law_sides an__law_sides cd__law_sides ct__law_sides), sl__law_sides⟩)
    (c__law_sides : PySem.W.codeIn K cd__law_sides "_law_sides" = true) (k__law_sides : PySem.W.keepIn K (.ref f__law_sides) = true)
    {od__law_rings an__law_rings : Option Addr} {sl__law_rings : Array (Option Value)} {oc__law_rings kV__law_rings dc__law_rings pm__law_rings cd__law_rings ct__law_rings : Value} {f__law_rings : Addr}
    (a__law_rings : PySem.W.nsIn K mainGlobals "_law_rings" = some (some (.ref f__law_rings)))
    (l__law_rings : K.lookup f__law_rings = some ⟨oc__law_rings, od__law_rings, .func (PySem.W.fnOf "_law_rings" "_law_rings" (defArgs s__law_rings) (defBody s__law_rings) (defScope s__law_rings) .none kV__law_rings dc__law_rings pm__law_rings an__law_rings cd__law_rings ct__law_rings), sl__law_rings⟩)
    (c__law_rings : PySem.W.codeIn K cd__law_rings "_law_rings" = true) (k__law_rings : PySem.W.keepIn K (.ref f__law_rings) = true)
    {od__law_told an__law_told : Option Addr} {sl__law_told : Array (Option Value)} {oc__law_told kV__law_told dc__law_told pm__law_told cd__law_told ct__law_told : Value} {f__law_told : Addr}
    (a__law_told : PySem.W.nsIn K mainGlobals "_law_told" = some (some (.ref f__law_told)))
    (l__law_told : K.lookup f__law_told = some ⟨oc__law_told, od__law_told, .func (PySem.W.fnOf "_law_told" "_law_told" (defArgs s__law_told) (defBody s__law_told) (defScope s__law_told) .none kV__law_told dc__law_told pm__law_told an__law_told cd__law_told ct__law_told), sl__law_told⟩)
    (c__law_told : PySem.W.codeIn K cd__law_told "_law_told" = true) (k__law_told : PySem.W.keepIn K (.ref f__law_told) = true)
    {od_law an_law : Option Addr} {sl_law : Array (Option Value)} {oc_law kV_law dc_law pm_law cd_law ct_law : Value} {f_law : Addr}
    (a_law : PySem.W.nsIn K mainGlobals "law" = some (some (.ref f_law)))
    (l_law : K.lookup f_law = some ⟨oc_law, od_law, .func (PySem.W.fnOf "law" "law" (defArgs s_law) (defBody s_law) (defScope s_law) .none kV_law dc_law pm_law an_law cd_law ct_law), sl_law⟩)
    (c_law : PySem.W.codeIn K cd_law "law" = true) (k_law : PySem.W.keepIn K (.ref f_law) = true)
    (z_abs : PySem.W.nsIn K mainGlobals "abs" = some none)
    (z_all : PySem.W.nsIn K mainGlobals "all" = some none)
    (z_any : PySem.W.nsIn K mainGlobals "any" = some none)
    (z_bool : PySem.W.nsIn K mainGlobals "bool" = some none)
    (z_enumerate : PySem.W.nsIn K mainGlobals "enumerate" = some none)
    (z_int : PySem.W.nsIn K mainGlobals "int" = some none)
    (z_isinstance : PySem.W.nsIn K mainGlobals "isinstance" = some none)
    (z_len : PySem.W.nsIn K mainGlobals "len" = some none)
    (z_list : PySem.W.nsIn K mainGlobals "list" = some none)
    (z_max : PySem.W.nsIn K mainGlobals "max" = some none)
    (z_min : PySem.W.nsIn K mainGlobals "min" = some none)
    (z_range : PySem.W.nsIn K mainGlobals "range" = some none)
    (z_set : PySem.W.nsIn K mainGlobals "set" = some none)
    (z_sorted : PySem.W.nsIn K mainGlobals "sorted" = some none)
    (z_sum : PySem.W.nsIn K mainGlobals "sum" = some none)
    (z_tuple : PySem.W.nsIn K mainGlobals "tuple" = some none)
    (z_zip : PySem.W.nsIn K mainGlobals "zip" = some none)
    {t_HIGHEST : Tok} (v_HIGHEST : PySem.W.nsIn K mainGlobals "HIGHEST" = some (some (.int (1000) t_HIGHEST)))
    {t_LEAST_OF_RING : Tok} (v_LEAST_OF_RING : PySem.W.nsIn K mainGlobals "LEAST_OF_RING" = some (some (.int (3) t_LEAST_OF_RING)))
    {t_LOWEST : Tok} (v_LOWEST : PySem.W.nsIn K mainGlobals "LOWEST" = some (some (.int (-1000) t_LOWEST)))
    {t_MOST_OF_HULL : Tok} (v_MOST_OF_HULL : PySem.W.nsIn K mainGlobals "MOST_OF_HULL" = some (some (.int (60) t_MOST_OF_HULL)))
    {t_MOST_OF_LINE : Tok} (v_MOST_OF_LINE : PySem.W.nsIn K mainGlobals "MOST_OF_LINE" = some (some (.int (40) t_MOST_OF_LINE)))
    {t_MOST_OF_RING : Tok} (v_MOST_OF_RING : PySem.W.nsIn K mainGlobals "MOST_OF_RING" = some (some (.int (40) t_MOST_OF_RING)))
    (z_gcd : PySem.W.nsIn K mainGlobals "gcd" = some (some (.builtin "math.gcd")))
    {bnm bq : Str} {bN bC bI bM : Addr} {bbs : List Value} {bsn : List Str} {bsub : List Value} {bab : Bool} {bcol : Option Bool} {bdd : Option Addr} {bm0 bm1 bm2 bm3 bm5 : Option Value} {boc bdc bpm bcd bct : Value} {bod ban : Option Addr} {bsl : Array (Option Value)}
    (baC : PySem.W.nsIn K mainGlobals "BadValue" = some (some (.ref bC)))
    (bxL : K.lookup bC = some (excClassObj bnm bq bC bN bbs [.ref bM, .type "ValueError", .type "Exception", .type "BaseException", .type "object"] true bsn bsub bab bcol bdd bm0 bm1 bm2 bm3 bm5 "ValueError.__new__"))
    (bsa : PySem.W.findIn K (.ref bC) "__setattr__" = some (some (.builtin "object.__setattr__"))) (bga : PySem.W.findIn K (.ref bC) "__getattribute__" = some (some (.builtin "BaseException.__getattribute__"))) (bgg : PySem.W.findIn K (.ref bC) "__getattr__" = some none) (bnb : PySem.W.findIn K (.ref bC) "name" = some none)
    (ba1 : PySem.W.findIn K (.ref bC) "__init__" = some (some (.ref bI))) (bt1 : PySem.W.typeIn K (.ref bI) = some (.type "function"))
    (bl1 : K.lookup bI = some ⟨boc, bod, .func (PySem.W.fnOf "__init__" "BadValue.__init__" (PySem.BvX.iA ⟨7, 17, 7, 21⟩ ⟨7, 23, 7, 27⟩) (PySem.BvX.iB ⟨8, 8, 8, 12⟩ ⟨8, 8, 8, 17⟩ ⟨8, 20, 8, 24⟩ ⟨8, 8, 8, 24⟩) PySem.BvX.iS .none .none bdc bpm ban bcd bct), bsl⟩) (bc1 : PySem.W.codeIn K bcd "BadValue.__init__" = true)
    (bkC : PySem.W.keepIn K (.ref bC) = true) (beC : PySem.W.subIn K (.ref bC) (.type "BaseException") = some true) (btC : PySem.W.typeIn K (.ref bC) = some (.type "type")) (bhC : PySem.W.hasDictIn K bC = true) (biC : PySem.W.isClsIn K bC = true) (bsC : PySem.W.subIn K (.ref bC) (.ref bC) = some true)
    {cc_are_points P_are_points : Addr} {t1_are_points : Value} {t2_are_points : Option Addr} {t3_are_points : Array (Option Value)} {vs_are_points : Array Value}
    (e_are_points : cd_are_points = .ref cc_are_points) (o_are_points : K.lookup cc_are_points = some ⟨t1_are_points, t2_are_points, .fields vs_are_points, t3_are_points⟩) (v_are_points : (vs_are_points[11]? : Option Value) = some (.ref P_are_points)) (nl_are_points : K.lookup P_are_points = none)
    (rc_are_points : ((PyProof.Rows.recsOf q).any fun e => e.name == ("are_points" : Str)) = true)
    {cc_is_line P_is_line : Addr} {t1_is_line : Value} {t2_is_line : Option Addr} {t3_is_line : Array (Option Value)} {vs_is_line : Array Value}
    (e_is_line : cd_is_line = .ref cc_is_line) (o_is_line : K.lookup cc_is_line = some ⟨t1_is_line, t2_is_line, .fields vs_is_line, t3_is_line⟩) (v_is_line : (vs_is_line[11]? : Option Value) = some (.ref P_is_line)) (nl_is_line : K.lookup P_is_line = none)
    (rc_is_line : ((PyProof.Rows.recsOf q).any fun e => e.name == ("is_line" : Str)) = true)
    {cc_area_around P_area_around : Addr} {t1_area_around : Value} {t2_area_around : Option Addr} {t3_area_around : Array (Option Value)} {vs_area_around : Array Value}
    (e_area_around : cd_area_around = .ref cc_area_around) (o_area_around : K.lookup cc_area_around = some ⟨t1_area_around, t2_area_around, .fields vs_area_around, t3_area_around⟩) (v_area_around : (vs_area_around[11]? : Option Value) = some (.ref P_area_around)) (nl_area_around : K.lookup P_area_around = none)
    (rc_area_around : ((PyProof.Rows.recsOf q).any fun e => e.name == ("area_around" : Str)) = true)
    {cc_is_simple P_is_simple : Addr} {t1_is_simple : Value} {t2_is_simple : Option Addr} {t3_is_simple : Array (Option Value)} {vs_is_simple : Array Value}
    (e_is_simple : cd_is_simple = .ref cc_is_simple) (o_is_simple : K.lookup cc_is_simple = some ⟨t1_is_simple, t2_is_simple, .fields vs_is_simple, t3_is_simple⟩) (v_is_simple : (vs_is_simple[11]? : Option Value) = some (.ref P_is_simple)) (nl_is_simple : K.lookup P_is_simple = none)
    (rc_is_simple : ((PyProof.Rows.recsOf q).any fun e => e.name == ("is_simple" : Str)) = true)
    {cc_place_in P_place_in : Addr} {t1_place_in : Value} {t2_place_in : Option Addr} {t3_place_in : Array (Option Value)} {vs_place_in : Array Value}
    (e_place_in : cd_place_in = .ref cc_place_in) (o_place_in : K.lookup cc_place_in = some ⟨t1_place_in, t2_place_in, .fields vs_place_in, t3_place_in⟩) (v_place_in : (vs_place_in[11]? : Option Value) = some (.ref P_place_in)) (nl_place_in : K.lookup P_place_in = none)
    (rc_place_in : ((PyProof.Rows.recsOf q).any fun e => e.name == ("place_in" : Str)) = true)
    {cc_are_corners P_are_corners : Addr} {t1_are_corners : Value} {t2_are_corners : Option Addr} {t3_are_corners : Array (Option Value)} {vs_are_corners : Array Value}
    (e_are_corners : cd_are_corners = .ref cc_are_corners) (o_are_corners : K.lookup cc_are_corners = some ⟨t1_are_corners, t2_are_corners, .fields vs_are_corners, t3_are_corners⟩) (v_are_corners : (vs_are_corners[11]? : Option Value) = some (.ref P_are_corners)) (nl_are_corners : K.lookup P_are_corners = none)
    (rc_are_corners : ((PyProof.Rows.recsOf q).any fun e => e.name == ("are_corners" : Str)) = true)
    {cc_turns_left P_turns_left : Addr} {t1_turns_left : Value} {t2_turns_left : Option Addr} {t3_turns_left : Array (Option Value)} {vs_turns_left : Array Value}
    (e_turns_left : cd_turns_left = .ref cc_turns_left) (o_turns_left : K.lookup cc_turns_left = some ⟨t1_turns_left, t2_turns_left, .fields vs_turns_left, t3_turns_left⟩) (v_turns_left : (vs_turns_left[11]? : Option Value) = some (.ref P_turns_left)) (nl_turns_left : K.lookup P_turns_left = none)
    (rc_turns_left : ((PyProof.Rows.recsOf q).any fun e => e.name == ("turns_left" : Str)) = true)
    {cc_is_hull P_is_hull : Addr} {t1_is_hull : Value} {t2_is_hull : Option Addr} {t3_is_hull : Array (Option Value)} {vs_is_hull : Array Value}
    (e_is_hull : cd_is_hull = .ref cc_is_hull) (o_is_hull : K.lookup cc_is_hull = some ⟨t1_is_hull, t2_is_hull, .fields vs_is_hull, t3_is_hull⟩) (v_is_hull : (vs_is_hull[11]? : Option Value) = some (.ref P_is_hull)) (nl_is_hull : K.lookup P_is_hull = none)
    (rc_is_hull : ((PyProof.Rows.recsOf q).any fun e => e.name == ("is_hull" : Str)) = true)
    : LamX.LawAtS l w K CX0 17 63 "script" mg fa h := by
  have e := hfa.symm.trans (PySem.W.mg_of X G a_law)
  cases e
  let T : Txt K mg := {
    a_is_whole := f_is_whole, d_is_whole := _, F_is_whole := fun_mk (st := s_is_whole) l_is_whole c_is_whole k_is_whole, m_is_whole := PySem.W.mg_of X G a_is_whole,
    b_is_whole := (fun_mk (st := s_is_whole) l_is_whole c_is_whole k_is_whole).binds (ps := ["value"]) fun _ _ _ _ _ _ us hl => match us, hl with | [_], _ => rfl,
    a_is_pair := f_is_pair, d_is_pair := _, F_is_pair := fun_mk (st := s_is_pair) l_is_pair c_is_pair k_is_pair, m_is_pair := PySem.W.mg_of X G a_is_pair,
    b_is_pair := (fun_mk (st := s_is_pair) l_is_pair c_is_pair k_is_pair).binds (ps := ["value"]) fun _ _ _ _ _ _ us hl => match us, hl with | [_], _ => rfl,
    a_need := f_need, d_need := _, F_need := fun_mk (st := s_need) l_need c_need k_need, m_need := PySem.W.mg_of X G a_need,
    b_need := (fun_mk (st := s_need) l_need c_need k_need).binds (ps := ["holds", "name"]) fun _ _ _ _ _ _ us hl => match us, hl with | [_, _], _ => rfl,
    a_lowest := f_lowest, d_lowest := _, F_lowest := fun_mk (st := s_lowest) l_lowest c_lowest k_lowest, m_lowest := PySem.W.mg_of X G a_lowest,
    b_lowest := (fun_mk (st := s_lowest) l_lowest c_lowest k_lowest).binds (ps := ["n", "d"]) fun _ _ _ _ _ _ us hl => match us, hl with | [_, _], _ => rfl,
    a_is_fraction := f_is_fraction, d_is_fraction := _, F_is_fraction := fun_mk (st := s_is_fraction) l_is_fraction c_is_fraction k_is_fraction, m_is_fraction := PySem.W.mg_of X G a_is_fraction,
    b_is_fraction := (fun_mk (st := s_is_fraction) l_is_fraction c_is_fraction k_is_fraction).binds (ps := ["value"]) fun _ _ _ _ _ _ us hl => match us, hl with | [_], _ => rfl,
    a_need_both := f_need_both, d_need_both := _, F_need_both := fun_mk (st := s_need_both) l_need_both c_need_both k_need_both, m_need_both := PySem.W.mg_of X G a_need_both,
    b_need_both := (fun_mk (st := s_need_both) l_need_both c_need_both k_need_both).binds (ps := ["first", "second"]) fun _ _ _ _ _ _ us hl => match us, hl with | [_, _], _ => rfl,
    a_less := f_less, d_less := _, F_less := fun_mk (st := s_less) l_less c_less k_less, m_less := PySem.W.mg_of X G a_less,
    b_less := (fun_mk (st := s_less) l_less c_less k_less).binds (ps := ["first", "second"]) fun _ _ _ _ _ _ us hl => match us, hl with | [_, _], _ => rfl,
    a_is_coordinate := f_is_coordinate, d_is_coordinate := _, F_is_coordinate := fun_mk (st := s_is_coordinate) l_is_coordinate c_is_coordinate k_is_coordinate, m_is_coordinate := PySem.W.mg_of X G a_is_coordinate,
    b_is_coordinate := (fun_mk (st := s_is_coordinate) l_is_coordinate c_is_coordinate k_is_coordinate).binds (ps := ["value"]) fun _ _ _ _ _ _ us hl => match us, hl with | [_], _ => rfl,
    a_is_point := f_is_point, d_is_point := _, F_is_point := fun_mk (st := s_is_point) l_is_point c_is_point k_is_point, m_is_point := PySem.W.mg_of X G a_is_point,
    b_is_point := (fun_mk (st := s_is_point) l_is_point c_is_point k_is_point).binds (ps := ["value"]) fun _ _ _ _ _ _ us hl => match us, hl with | [_], _ => rfl,
    a_is_segment := f_is_segment, d_is_segment := _, F_is_segment := fun_mk (st := s_is_segment) l_is_segment c_is_segment k_is_segment, m_is_segment := PySem.W.mg_of X G a_is_segment,
    b_is_segment := (fun_mk (st := s_is_segment) l_is_segment c_is_segment k_is_segment).binds (ps := ["value"]) fun _ _ _ _ _ _ us hl => match us, hl with | [_], _ => rfl,
    a_are_points := f_are_points, d_are_points := _, cc_are_points := cc_are_points, P_are_points := P_are_points, F_are_points := funT_mk (st := s_are_points) l_are_points c_are_points k_are_points e_are_points, m_are_points := PySem.W.mg_of X G a_are_points,
    b_are_points := (fun_mk (st := s_are_points) l_are_points c_are_points k_are_points).binds (ps := ["value", "least", "most"]) fun _ _ _ _ _ _ us hl => match us, hl with | [_, _, _], _ => rfl,
    a_is_line := f_is_line, d_is_line := _, cc_is_line := cc_is_line, P_is_line := P_is_line, F_is_line := funT_mk (st := s_is_line) l_is_line c_is_line k_is_line e_is_line, m_is_line := PySem.W.mg_of X G a_is_line,
    b_is_line := (fun_mk (st := s_is_line) l_is_line c_is_line k_is_line).binds (ps := ["value"]) fun _ _ _ _ _ _ us hl => match us, hl with | [_], _ => rfl,
    a_joining := f_joining, d_joining := _, F_joining := fun_mk (st := s_joining) l_joining c_joining k_joining, m_joining := PySem.W.mg_of X G a_joining,
    b_joining := (fun_mk (st := s_joining) l_joining c_joining k_joining).binds (ps := ["p", "q"]) fun _ _ _ _ _ _ us hl => match us, hl with | [_, _], _ => rfl,
    a_edges_along := f_edges_along, d_edges_along := _, F_edges_along := fun_mk (st := s_edges_along) l_edges_along c_edges_along k_edges_along, m_edges_along := PySem.W.mg_of X G a_edges_along,
    b_edges_along := (fun_mk (st := s_edges_along) l_edges_along c_edges_along k_edges_along).binds (ps := ["points"]) fun _ _ _ _ _ _ us hl => match us, hl with | [_], _ => rfl,
    a_turn_of := f_turn_of, d_turn_of := _, F_turn_of := fun_mk (st := s_turn_of) l_turn_of c_turn_of k_turn_of, m_turn_of := PySem.W.mg_of X G a_turn_of,
    b_turn_of := (fun_mk (st := s_turn_of) l_turn_of c_turn_of k_turn_of).binds (ps := ["a", "b", "c"]) fun _ _ _ _ _ _ us hl => match us, hl with | [_, _, _], _ => rfl,
    a_is_on := f_is_on, d_is_on := _, F_is_on := fun_mk (st := s_is_on) l_is_on c_is_on k_is_on, m_is_on := PySem.W.mg_of X G a_is_on,
    b_is_on := (fun_mk (st := s_is_on) l_is_on c_is_on k_is_on).binds (ps := ["p", "segment"]) fun _ _ _ _ _ _ us hl => match us, hl with | [_, _], _ => rfl,
    a_crosses_east := f_crosses_east, d_crosses_east := _, F_crosses_east := fun_mk (st := s_crosses_east) l_crosses_east c_crosses_east k_crosses_east, m_crosses_east := PySem.W.mg_of X G a_crosses_east,
    b_crosses_east := (fun_mk (st := s_crosses_east) l_crosses_east c_crosses_east k_crosses_east).binds (ps := ["p", "a", "b"]) fun _ _ _ _ _ _ us hl => match us, hl with | [_, _, _], _ => rfl,
    a_foot_on := f_foot_on, d_foot_on := _, F_foot_on := fun_mk (st := s_foot_on) l_foot_on c_foot_on k_foot_on, m_foot_on := PySem.W.mg_of X G a_foot_on,
    b_foot_on := (fun_mk (st := s_foot_on) l_foot_on c_foot_on k_foot_on).binds (ps := ["p", "segment"]) fun _ _ _ _ _ _ us hl => match us, hl with | [_, _], _ => rfl,
    a_gap_to := f_gap_to, d_gap_to := _, F_gap_to := fun_mk (st := s_gap_to) l_gap_to c_gap_to k_gap_to, m_gap_to := PySem.W.mg_of X G a_gap_to,
    b_gap_to := (fun_mk (st := s_gap_to) l_gap_to c_gap_to k_gap_to).binds (ps := ["p", "segment"]) fun _ _ _ _ _ _ us hl => match us, hl with | [_, _], _ => rfl,
    a_turn := f_turn, d_turn := _, F_turn := fun_mk (st := s_turn) l_turn c_turn k_turn, m_turn := PySem.W.mg_of X G a_turn,
    b_turn := (fun_mk (st := s_turn) l_turn c_turn k_turn).binds (ps := ["a", "b", "c"]) fun _ _ _ _ _ _ us hl => match us, hl with | [_, _, _], _ => rfl,
    a_lies_on := f_lies_on, d_lies_on := _, F_lies_on := fun_mk (st := s_lies_on) l_lies_on c_lies_on k_lies_on, m_lies_on := PySem.W.mg_of X G a_lies_on,
    b_lies_on := (fun_mk (st := s_lies_on) l_lies_on c_lies_on k_lies_on).binds (ps := ["p", "segment"]) fun _ _ _ _ _ _ us hl => match us, hl with | [_, _], _ => rfl,
    a_foot_of := f_foot_of, d_foot_of := _, F_foot_of := fun_mk (st := s_foot_of) l_foot_of c_foot_of k_foot_of, m_foot_of := PySem.W.mg_of X G a_foot_of,
    b_foot_of := (fun_mk (st := s_foot_of) l_foot_of c_foot_of k_foot_of).binds (ps := ["p", "segment"]) fun _ _ _ _ _ _ us hl => match us, hl with | [_, _], _ => rfl,
    a_gap_of := f_gap_of, d_gap_of := _, F_gap_of := fun_mk (st := s_gap_of) l_gap_of c_gap_of k_gap_of, m_gap_of := PySem.W.mg_of X G a_gap_of,
    b_gap_of := (fun_mk (st := s_gap_of) l_gap_of c_gap_of k_gap_of).binds (ps := ["p", "segment"]) fun _ _ _ _ _ _ us hl => match us, hl with | [_, _], _ => rfl,
    a_nearest_edge := f_nearest_edge, d_nearest_edge := _, F_nearest_edge := fun_mk (st := s_nearest_edge) l_nearest_edge c_nearest_edge k_nearest_edge, m_nearest_edge := PySem.W.mg_of X G a_nearest_edge,
    b_nearest_edge := (fun_mk (st := s_nearest_edge) l_nearest_edge c_nearest_edge k_nearest_edge).binds (ps := ["p", "line"]) fun _ _ _ _ _ _ us hl => match us, hl with | [_, _], _ => rfl,
    a_are_apart := f_are_apart, d_are_apart := _, F_are_apart := fun_mk (st := s_are_apart) l_are_apart c_are_apart k_are_apart, m_are_apart := PySem.W.mg_of X G a_are_apart,
    b_are_apart := (fun_mk (st := s_are_apart) l_are_apart c_are_apart k_are_apart).binds (ps := ["first", "second"]) fun _ _ _ _ _ _ us hl => match us, hl with | [_, _], _ => rfl,
    a_meeting_on_line := f_meeting_on_line, d_meeting_on_line := _, F_meeting_on_line := fun_mk (st := s_meeting_on_line) l_meeting_on_line c_meeting_on_line k_meeting_on_line, m_meeting_on_line := PySem.W.mg_of X G a_meeting_on_line,
    b_meeting_on_line := (fun_mk (st := s_meeting_on_line) l_meeting_on_line c_meeting_on_line k_meeting_on_line).binds (ps := ["first", "second"]) fun _ _ _ _ _ _ us hl => match us, hl with | [_, _], _ => rfl,
    a_common_end := f_common_end, d_common_end := _, F_common_end := fun_mk (st := s_common_end) l_common_end c_common_end k_common_end, m_common_end := PySem.W.mg_of X G a_common_end,
    b_common_end := (fun_mk (st := s_common_end) l_common_end c_common_end k_common_end).binds (ps := ["first", "second"]) fun _ _ _ _ _ _ us hl => match us, hl with | [_, _], _ => rfl,
    a_cut_point := f_cut_point, d_cut_point := _, F_cut_point := fun_mk (st := s_cut_point) l_cut_point c_cut_point k_cut_point, m_cut_point := PySem.W.mg_of X G a_cut_point,
    b_cut_point := (fun_mk (st := s_cut_point) l_cut_point c_cut_point k_cut_point).binds (ps := ["first", "before", "after"]) fun _ _ _ _ _ _ us hl => match us, hl with | [_, _, _], _ => rfl,
    a_meeting_of := f_meeting_of, d_meeting_of := _, F_meeting_of := fun_mk (st := s_meeting_of) l_meeting_of c_meeting_of k_meeting_of, m_meeting_of := PySem.W.mg_of X G a_meeting_of,
    b_meeting_of := (fun_mk (st := s_meeting_of) l_meeting_of c_meeting_of k_meeting_of).binds (ps := ["first", "second"]) fun _ _ _ _ _ _ us hl => match us, hl with | [_, _], _ => rfl,
    a_meeting := f_meeting, d_meeting := _, F_meeting := fun_mk (st := s_meeting) l_meeting c_meeting k_meeting, m_meeting := PySem.W.mg_of X G a_meeting,
    b_meeting := (fun_mk (st := s_meeting) l_meeting c_meeting k_meeting).binds (ps := ["first", "second"]) fun _ _ _ _ _ _ us hl => match us, hl with | [_, _], _ => rfl,
    a_ways_around := f_ways_around, d_ways_around := _, F_ways_around := fun_mk (st := s_ways_around) l_ways_around c_ways_around k_ways_around, m_ways_around := PySem.W.mg_of X G a_ways_around,
    b_ways_around := (fun_mk (st := s_ways_around) l_ways_around c_ways_around k_ways_around).binds (ps := ["points"]) fun _ _ _ _ _ _ us hl => match us, hl with | [_], _ => rfl,
    a_area_around := f_area_around, d_area_around := _, cc_area_around := cc_area_around, P_area_around := P_area_around, F_area_around := funT_mk (st := s_area_around) l_area_around c_area_around k_area_around e_area_around, m_area_around := PySem.W.mg_of X G a_area_around,
    b_area_around := (fun_mk (st := s_area_around) l_area_around c_area_around k_area_around).binds (ps := ["points"]) fun _ _ _ _ _ _ us hl => match us, hl with | [_], _ => rfl,
    a_do_follow := f_do_follow, d_do_follow := _, F_do_follow := fun_mk (st := s_do_follow) l_do_follow c_do_follow k_do_follow, m_do_follow := PySem.W.mg_of X G a_do_follow,
    b_do_follow := (fun_mk (st := s_do_follow) l_do_follow c_do_follow k_do_follow).binds (ps := ["i", "j", "many"]) fun _ _ _ _ _ _ us hl => match us, hl with | [_, _, _], _ => rfl,
    a_is_simple := f_is_simple, d_is_simple := _, cc_is_simple := cc_is_simple, P_is_simple := P_is_simple, F_is_simple := funT_mk (st := s_is_simple) l_is_simple c_is_simple k_is_simple e_is_simple, m_is_simple := PySem.W.mg_of X G a_is_simple,
    b_is_simple := (fun_mk (st := s_is_simple) l_is_simple c_is_simple k_is_simple).binds (ps := ["points"]) fun _ _ _ _ _ _ us hl => match us, hl with | [_], _ => rfl,
    a_goes_around := f_goes_around, d_goes_around := _, F_goes_around := fun_mk (st := s_goes_around) l_goes_around c_goes_around k_goes_around, m_goes_around := PySem.W.mg_of X G a_goes_around,
    b_goes_around := (fun_mk (st := s_goes_around) l_goes_around c_goes_around k_goes_around).binds (ps := ["value"]) fun _ _ _ _ _ _ us hl => match us, hl with | [_], _ => rfl,
    a_is_ring := f_is_ring, d_is_ring := _, F_is_ring := fun_mk (st := s_is_ring) l_is_ring c_is_ring k_is_ring, m_is_ring := PySem.W.mg_of X G a_is_ring,
    b_is_ring := (fun_mk (st := s_is_ring) l_is_ring c_is_ring k_is_ring).binds (ps := ["value"]) fun _ _ _ _ _ _ us hl => match us, hl with | [_], _ => rfl,
    a_ring_of := f_ring_of, d_ring_of := _, F_ring_of := fun_mk (st := s_ring_of) l_ring_of c_ring_of k_ring_of, m_ring_of := PySem.W.mg_of X G a_ring_of,
    b_ring_of := (fun_mk (st := s_ring_of) l_ring_of c_ring_of k_ring_of).binds (ps := ["points"]) fun _ _ _ _ _ _ us hl => match us, hl with | [_], _ => rfl,
    a_size_of := f_size_of, d_size_of := _, F_size_of := fun_mk (st := s_size_of) l_size_of c_size_of k_size_of, m_size_of := PySem.W.mg_of X G a_size_of,
    b_size_of := (fun_mk (st := s_size_of) l_size_of c_size_of k_size_of).binds (ps := ["points"]) fun _ _ _ _ _ _ us hl => match us, hl with | [_], _ => rfl,
    a_place_in := f_place_in, d_place_in := _, cc_place_in := cc_place_in, P_place_in := P_place_in, F_place_in := funT_mk (st := s_place_in) l_place_in c_place_in k_place_in e_place_in, m_place_in := PySem.W.mg_of X G a_place_in,
    b_place_in := (fun_mk (st := s_place_in) l_place_in c_place_in k_place_in).binds (ps := ["p", "ring"]) fun _ _ _ _ _ _ us hl => match us, hl with | [_, _], _ => rfl,
    a_left_turns := f_left_turns, d_left_turns := _, F_left_turns := fun_mk (st := s_left_turns) l_left_turns c_left_turns k_left_turns, m_left_turns := PySem.W.mg_of X G a_left_turns,
    b_left_turns := (fun_mk (st := s_left_turns) l_left_turns c_left_turns k_left_turns).binds (ps := ["points"]) fun _ _ _ _ _ _ us hl => match us, hl with | [_], _ => rfl,
    a_hull_of := f_hull_of, d_hull_of := _, F_hull_of := fun_mk (st := s_hull_of) l_hull_of c_hull_of k_hull_of, m_hull_of := PySem.W.mg_of X G a_hull_of,
    b_hull_of := (fun_mk (st := s_hull_of) l_hull_of c_hull_of k_hull_of).binds (ps := ["points"]) fun _ _ _ _ _ _ us hl => match us, hl with | [_], _ => rfl,
    a_are_corners := f_are_corners, d_are_corners := _, cc_are_corners := cc_are_corners, P_are_corners := P_are_corners, F_are_corners := funT_mk (st := s_are_corners) l_are_corners c_are_corners k_are_corners e_are_corners, m_are_corners := PySem.W.mg_of X G a_are_corners,
    b_are_corners := (fun_mk (st := s_are_corners) l_are_corners c_are_corners k_are_corners).binds (ps := ["points", "value"]) fun _ _ _ _ _ _ us hl => match us, hl with | [_, _], _ => rfl,
    a_turns_left := f_turns_left, d_turns_left := _, cc_turns_left := cc_turns_left, P_turns_left := P_turns_left, F_turns_left := funT_mk (st := s_turns_left) l_turns_left c_turns_left k_turns_left e_turns_left, m_turns_left := PySem.W.mg_of X G a_turns_left,
    b_turns_left := (fun_mk (st := s_turns_left) l_turns_left c_turns_left k_turns_left).binds (ps := ["corners"]) fun _ _ _ _ _ _ us hl => match us, hl with | [_], _ => rfl,
    a_is_hull := f_is_hull, d_is_hull := _, cc_is_hull := cc_is_hull, P_is_hull := P_is_hull, F_is_hull := funT_mk (st := s_is_hull) l_is_hull c_is_hull k_is_hull e_is_hull, m_is_hull := PySem.W.mg_of X G a_is_hull,
    b_is_hull := (fun_mk (st := s_is_hull) l_is_hull c_is_hull k_is_hull).binds (ps := ["points", "value"]) fun _ _ _ _ _ _ us hl => match us, hl with | [_, _], _ => rfl,
    a__law_stream := f__law_stream, d__law_stream := _, F__law_stream := fun_mk (st := s__law_stream) l__law_stream c__law_stream k__law_stream, m__law_stream := PySem.W.mg_of X G a__law_stream,
    b__law_stream := (fun_mk (st := s__law_stream) l__law_stream c__law_stream k__law_stream).binds (ps := ["script"]) fun _ _ _ _ _ _ us hl => match us, hl with | [_], _ => rfl,
    a__law_next := f__law_next, d__law_next := _, F__law_next := fun_mk (st := s__law_next) l__law_next c__law_next k__law_next, m__law_next := PySem.W.mg_of X G a__law_next,
    b__law_next := (fun_mk (st := s__law_next) l__law_next c__law_next k__law_next).binds (ps := ["stream", "many"]) fun _ _ _ _ _ _ us hl => match us, hl with | [_, _], _ => rfl,
    a__law_sides := f__law_sides, d__law_sides := _, F__law_sides := fun_mk (st := s__law_sides) l__law_sides c__law_sides k__law_sides, m__law_sides := PySem.W.mg_of X G a__law_sides,
    b__law_sides := (fun_mk (st := s__law_sides) l__law_sides c__law_sides k__law_sides).binds (ps := ["which", "row"]) fun _ _ _ _ _ _ us hl => match us, hl with | [_, _], _ => rfl,
    a__law_rings := f__law_rings, d__law_rings := _, F__law_rings := fun_mk (st := s__law_rings) l__law_rings c__law_rings k__law_rings, m__law_rings := PySem.W.mg_of X G a__law_rings,
    b__law_rings := (fun_mk (st := s__law_rings) l__law_rings c__law_rings k__law_rings).binds (ps := ["which", "row"]) fun _ _ _ _ _ _ us hl => match us, hl with | [_, _], _ => rfl,
    a__law_told := f__law_told, d__law_told := _, F__law_told := fun_mk (st := s__law_told) l__law_told c__law_told k__law_told, m__law_told := PySem.W.mg_of X G a__law_told,
    b__law_told := (fun_mk (st := s__law_told) l__law_told c__law_told k__law_told).binds (ps := ["which", "row"]) fun _ _ _ _ _ _ us hl => match us, hl with | [_, _], _ => rfl,
    a_law := fa, d_law := _, F_law := fun_mk (st := s_law) l_law c_law k_law, m_law := PySem.W.mg_of X G a_law,
    b_law := (fun_mk (st := s_law) l_law c_law k_law).binds (ps := ["script"]) fun _ _ _ _ _ _ us hl => match us, hl with | [_], _ => rfl,
    n_abs := PySem.W.mg_none_of X G z_abs,
    n_all := PySem.W.mg_none_of X G z_all,
    n_any := PySem.W.mg_none_of X G z_any,
    n_bool := PySem.W.mg_none_of X G z_bool,
    n_enumerate := PySem.W.mg_none_of X G z_enumerate,
    n_int := PySem.W.mg_none_of X G z_int,
    n_isinstance := PySem.W.mg_none_of X G z_isinstance,
    n_len := PySem.W.mg_none_of X G z_len,
    n_list := PySem.W.mg_none_of X G z_list,
    n_max := PySem.W.mg_none_of X G z_max,
    n_min := PySem.W.mg_none_of X G z_min,
    n_range := PySem.W.mg_none_of X G z_range,
    n_set := PySem.W.mg_none_of X G z_set,
    n_sorted := PySem.W.mg_none_of X G z_sorted,
    n_sum := PySem.W.mg_none_of X G z_sum,
    n_tuple := PySem.W.mg_none_of X G z_tuple,
    n_zip := PySem.W.mg_none_of X G z_zip,
    c_HIGHEST := ⟨_, PySem.W.mg_of X G v_HIGHEST⟩,
    c_LEAST_OF_RING := ⟨_, PySem.W.mg_of X G v_LEAST_OF_RING⟩,
    c_LOWEST := ⟨_, PySem.W.mg_of X G v_LOWEST⟩,
    c_MOST_OF_HULL := ⟨_, PySem.W.mg_of X G v_MOST_OF_HULL⟩,
    c_MOST_OF_LINE := ⟨_, PySem.W.mg_of X G v_MOST_OF_LINE⟩,
    c_MOST_OF_RING := ⟨_, PySem.W.mg_of X G v_MOST_OF_RING⟩,
    n_gcd := PySem.W.mg_of X G z_gcd,
    C_BadValue := bC, i_BadValue := bI,
    bv := { gC := PySem.W.mg_of X G baC, cls := ⟨bnm, bq, bN, bbs, _, bsn, bsub, bab, bcol, bdd, bm0, bm1, bm2, bm3, bm5, bxL, rfl⟩, sa := bsa, ga := bga, gg := bgg, noN := bnb, iC := ba1, tC := bt1, kC := bkC, exC := beC, tyC := btC, hdC := bhC, te := exm_self beC biC btC bsC, fn := ⟨_, _, _, _, _, _, _, _, _, _, _, _, _, _, bl1, bc1⟩ } }
  have tb_are_points := TQ "are_points" cc_are_points P_are_points rc_are_points (tabIn_of a_are_points l_are_points rfl e_are_points o_are_points v_are_points)
  have tb_is_line := TQ "is_line" cc_is_line P_is_line rc_is_line (tabIn_of a_is_line l_is_line rfl e_is_line o_is_line v_is_line)
  have tb_area_around := TQ "area_around" cc_area_around P_area_around rc_area_around (tabIn_of a_area_around l_area_around rfl e_area_around o_area_around v_area_around)
  have tb_is_simple := TQ "is_simple" cc_is_simple P_is_simple rc_is_simple (tabIn_of a_is_simple l_is_simple rfl e_is_simple o_is_simple v_is_simple)
  have tb_place_in := TQ "place_in" cc_place_in P_place_in rc_place_in (tabIn_of a_place_in l_place_in rfl e_place_in o_place_in v_place_in)
  have tb_are_corners := TQ "are_corners" cc_are_corners P_are_corners rc_are_corners (tabIn_of a_are_corners l_are_corners rfl e_are_corners o_are_corners v_are_corners)
  have tb_turns_left := TQ "turns_left" cc_turns_left P_turns_left rc_turns_left (tabIn_of a_turns_left l_turns_left rfl e_turns_left o_turns_left v_turns_left)
  have tb_is_hull := TQ "is_hull" cc_is_hull P_is_hull rc_is_hull (tabIn_of a_is_hull l_is_hull rfl e_is_hull o_is_hull v_is_hull)
  refine ⟨_, [(cc_are_points, P_are_points), (cc_is_line, P_is_line), (cc_area_around, P_area_around), (cc_is_simple, P_is_simple), (cc_place_in, P_place_in), (cc_are_corners, P_are_corners), (cc_turns_left, P_turns_left), (cc_is_hull, P_is_hull)], spLawT K T.ts, List.forall_mem_cons.mpr ⟨tb_are_points.2, List.forall_mem_cons.mpr ⟨tb_is_line.2, List.forall_mem_cons.mpr ⟨tb_area_around.2, List.forall_mem_cons.mpr ⟨tb_is_simple.2, List.forall_mem_cons.mpr ⟨tb_place_in.2, List.forall_mem_cons.mpr ⟨tb_are_corners.2, List.forall_mem_cons.mpr ⟨tb_turns_left.2, List.forall_mem_cons.mpr ⟨tb_is_hull.2, fun _ z => nomatch z⟩⟩⟩⟩⟩⟩⟩⟩, List.forall_mem_cons.mpr ⟨nl_are_points, List.forall_mem_cons.mpr ⟨nl_is_line, List.forall_mem_cons.mpr ⟨nl_area_around, List.forall_mem_cons.mpr ⟨nl_is_simple, List.forall_mem_cons.mpr ⟨nl_place_in, List.forall_mem_cons.mpr ⟨nl_are_corners, List.forall_mem_cons.mpr ⟨nl_turns_left, List.forall_mem_cons.mpr ⟨nl_is_hull, fun _ z => nomatch z⟩⟩⟩⟩⟩⟩⟩⟩, List.forall_mem_cons.mpr ⟨tb_are_points.1, List.forall_mem_cons.mpr ⟨tb_is_line.1, List.forall_mem_cons.mpr ⟨tb_area_around.1, List.forall_mem_cons.mpr ⟨tb_is_simple.1, List.forall_mem_cons.mpr ⟨tb_place_in.1, List.forall_mem_cons.mpr ⟨tb_are_corners.1, List.forall_mem_cons.mpr ⟨tb_turns_left.1, List.forall_mem_cons.mpr ⟨tb_is_hull.1, fun _ z => nomatch z⟩⟩⟩⟩⟩⟩⟩⟩, fun s v => .of_eq rfl, fun H a ns h1 h2 h3 h4 => ⟨a, ns, rfl, h4, h1, tbs_nil rfl h3, fun _ => rfl⟩, fun base _ _ hb => ok_law T ⟨(let z := hb (cc_are_points, P_are_points) (by simp); ⟨z.code, z.bm, z.gP⟩), (let z := hb (cc_is_line, P_is_line) (by simp); ⟨z.code, z.bm, z.gP⟩), (let z := hb (cc_area_around, P_area_around) (by simp); ⟨z.code, z.bm, z.gP⟩), (let z := hb (cc_is_simple, P_is_simple) (by simp); ⟨z.code, z.bm, z.gP⟩), (let z := hb (cc_place_in, P_place_in) (by simp); ⟨z.code, z.bm, z.gP⟩), (let z := hb (cc_are_corners, P_are_corners) (by simp); ⟨z.code, z.bm, z.gP⟩), (let z := hb (cc_turns_left, P_turns_left) (by simp); ⟨z.code, z.bm, z.gP⟩), (let z := hb (cc_is_hull, P_is_hull) (by simp); ⟨z.code, z.bm, z.gP⟩)⟩⟩
end My
open PySem PySem.W PyProof.Rows
set_option maxRecDepth 100000 in
set_option maxHeartbeats 0 in
theorem PySem.Challenge.cw_trueatlas_k17_refusals_of_geometry_holds : PySem.Challenge.rw_trueatlas_k17_refusals_of_geometry.Holds := by
  w_on; o_law; k_head; (case hw => w_witness2)
  k_fill
  refine My.walkT (l := PySem.Challenge.rw_trueatlas_k17_refusals_of_geometry) (k := 17) ⟨rfl, by decide, by decide⟩ rfl rfl (fun w h Y => PySem.W.kIn_of Y) ?F
  case F =>
    intro w mg fa h TQ KX G hmg
    refine' My.all_mk (w := w) KX G hmg TQ ?a_is_whole ?l_is_whole ?c_is_whole ?k_is_whole ?a_is_pair ?l_is_pair ?c_is_pair ?k_is_pair ?a_need ?l_need ?c_need ?k_need ?a_lowest ?l_lowest ?c_lowest ?k_lowest ?a_is_fraction ?l_is_fraction ?c_is_fraction ?k_is_fraction ?a_need_both ?l_need_both ?c_need_both ?k_need_both ?a_less ?l_less ?c_less ?k_less ?a_is_coordinate ?l_is_coordinate ?c_is_coordinate ?k_is_coordinate ?a_is_point ?l_is_point ?c_is_point ?k_is_point ?a_is_segment ?l_is_segment ?c_is_segment ?k_is_segment ?a_are_points ?l_are_points ?c_are_points ?k_are_points ?a_is_line ?l_is_line ?c_is_line ?k_is_line ?a_joining ?l_joining ?c_joining ?k_joining ?a_edges_along ?l_edges_along ?c_edges_along ?k_edges_along ?a_turn_of ?l_turn_of ?c_turn_of ?k_turn_of ?a_is_on ?l_is_on ?c_is_on ?k_is_on ?a_crosses_east ?l_crosses_east ?c_crosses_east ?k_crosses_east ?a_foot_on ?l_foot_on ?c_foot_on ?k_foot_on ?a_gap_to ?l_gap_to ?c_gap_to ?k_gap_to ?a_turn ?l_turn ?c_turn ?k_turn ?a_lies_on ?l_lies_on ?c_lies_on ?k_lies_on ?a_foot_of ?l_foot_of ?c_foot_of ?k_foot_of ?a_gap_of ?l_gap_of ?c_gap_of ?k_gap_of ?a_nearest_edge ?l_nearest_edge ?c_nearest_edge ?k_nearest_edge ?a_are_apart ?l_are_apart ?c_are_apart ?k_are_apart ?a_meeting_on_line ?l_meeting_on_line ?c_meeting_on_line ?k_meeting_on_line ?a_common_end ?l_common_end ?c_common_end ?k_common_end ?a_cut_point ?l_cut_point ?c_cut_point ?k_cut_point ?a_meeting_of ?l_meeting_of ?c_meeting_of ?k_meeting_of ?a_meeting ?l_meeting ?c_meeting ?k_meeting ?a_ways_around ?l_ways_around ?c_ways_around ?k_ways_around ?a_area_around ?l_area_around ?c_area_around ?k_area_around ?a_do_follow ?l_do_follow ?c_do_follow ?k_do_follow ?a_is_simple ?l_is_simple ?c_is_simple ?k_is_simple ?a_goes_around ?l_goes_around ?c_goes_around ?k_goes_around ?a_is_ring ?l_is_ring ?c_is_ring ?k_is_ring ?a_ring_of ?l_ring_of ?c_ring_of ?k_ring_of ?a_size_of ?l_size_of ?c_size_of ?k_size_of ?a_place_in ?l_place_in ?c_place_in ?k_place_in ?a_left_turns ?l_left_turns ?c_left_turns ?k_left_turns ?a_hull_of ?l_hull_of ?c_hull_of ?k_hull_of ?a_are_corners ?l_are_corners ?c_are_corners ?k_are_corners ?a_turns_left ?l_turns_left ?c_turns_left ?k_turns_left ?a_is_hull ?l_is_hull ?c_is_hull ?k_is_hull ?a__law_stream ?l__law_stream ?c__law_stream ?k__law_stream ?a__law_next ?l__law_next ?c__law_next ?k__law_next ?a__law_sides ?l__law_sides ?c__law_sides ?k__law_sides ?a__law_rings ?l__law_rings ?c__law_rings ?k__law_rings ?a__law_told ?l__law_told ?c__law_told ?k__law_told ?a_law ?l_law ?c_law ?k_law ?z_abs ?z_all ?z_any ?z_bool ?z_enumerate ?z_int ?z_isinstance ?z_len ?z_list ?z_max ?z_min ?z_range ?z_set ?z_sorted ?z_sum ?z_tuple ?z_zip ?v_HIGHEST ?v_LEAST_OF_RING ?v_LOWEST ?v_MOST_OF_HULL ?v_MOST_OF_LINE ?v_MOST_OF_RING ?z_gcd ?baC ?bxL ?bsa ?bga ?bgg ?bnb ?ba1 ?bt1 ?bl1 ?bc1 ?bkC ?beC ?btC ?bhC ?biC ?bsC ?e_are_points ?o_are_points ?v_are_points ?nl_are_points ?rc_are_points ?e_is_line ?o_is_line ?v_is_line ?nl_is_line ?rc_is_line ?e_area_around ?o_area_around ?v_area_around ?nl_area_around ?rc_area_around ?e_is_simple ?o_is_simple ?v_is_simple ?nl_is_simple ?rc_is_simple ?e_place_in ?o_place_in ?v_place_in ?nl_place_in ?rc_place_in ?e_are_corners ?o_are_corners ?v_are_corners ?nl_are_corners ?rc_are_corners ?e_turns_left ?o_turns_left ?v_turns_left ?nl_turns_left ?rc_turns_left ?e_is_hull ?o_is_hull ?v_is_hull ?nl_is_hull ?rc_is_hull
    (case a_is_whole => k_is)
    (case l_is_whole => k_is)
    (case c_is_whole => k_is)
    (case k_is_whole => k_is)
    (case a_is_pair => k_is)
    (case l_is_pair => k_is)
    (case c_is_pair => k_is)
    (case k_is_pair => k_is)
    (case a_need => k_is)
    (case l_need => k_is)
    (case c_need => k_is)
    (case k_need => k_is)
    (case a_lowest => k_is)
    (case l_lowest => k_is)
    (case c_lowest => k_is)
    (case k_lowest => k_is)
    (case a_is_fraction => k_is)
    (case l_is_fraction => k_is)
    (case c_is_fraction => k_is)
    (case k_is_fraction => k_is)
    (case a_need_both => k_is)
    (case l_need_both => k_is)
    (case c_need_both => k_is)
    (case k_need_both => k_is)
    (case a_less => k_is)
    (case l_less => k_is)
    (case c_less => k_is)
    (case k_less => k_is)
    (case a_is_coordinate => k_is)
    (case l_is_coordinate => k_is)
    (case c_is_coordinate => k_is)
    (case k_is_coordinate => k_is)
    (case a_is_point => k_is)
    (case l_is_point => k_is)
    (case c_is_point => k_is)
    (case k_is_point => k_is)
    (case a_is_segment => k_is)
    (case l_is_segment => k_is)
    (case c_is_segment => k_is)
    (case k_is_segment => k_is)
    (case a_are_points => k_is)
    (case l_are_points => k_is)
    (case c_are_points => k_is)
    (case k_are_points => k_is)
    (case a_is_line => k_is)
    (case l_is_line => k_is)
    (case c_is_line => k_is)
    (case k_is_line => k_is)
    (case a_joining => k_is)
    (case l_joining => k_is)
    (case c_joining => k_is)
    (case k_joining => k_is)
    (case a_edges_along => k_is)
    (case l_edges_along => k_is)
    (case c_edges_along => k_is)
    (case k_edges_along => k_is)
    (case a_turn_of => k_is)
    (case l_turn_of => k_is)
    (case c_turn_of => k_is)
    (case k_turn_of => k_is)
    (case a_is_on => k_is)
    (case l_is_on => k_is)
    (case c_is_on => k_is)
    (case k_is_on => k_is)
    (case a_crosses_east => k_is)
    (case l_crosses_east => k_is)
    (case c_crosses_east => k_is)
    (case k_crosses_east => k_is)
    (case a_foot_on => k_is)
    (case l_foot_on => k_is)
    (case c_foot_on => k_is)
    (case k_foot_on => k_is)
    (case a_gap_to => k_is)
    (case l_gap_to => k_is)
    (case c_gap_to => k_is)
    (case k_gap_to => k_is)
    (case a_turn => k_is)
    (case l_turn => k_is)
    (case c_turn => k_is)
    (case k_turn => k_is)
    (case a_lies_on => k_is)
    (case l_lies_on => k_is)
    (case c_lies_on => k_is)
    (case k_lies_on => k_is)
    (case a_foot_of => k_is)
    (case l_foot_of => k_is)
    (case c_foot_of => k_is)
    (case k_foot_of => k_is)
    (case a_gap_of => k_is)
    (case l_gap_of => k_is)
    (case c_gap_of => k_is)
    (case k_gap_of => k_is)
    (case a_nearest_edge => k_is)
    (case l_nearest_edge => k_is)
    (case c_nearest_edge => k_is)
    (case k_nearest_edge => k_is)
    (case a_are_apart => k_is)
    (case l_are_apart => k_is)
    (case c_are_apart => k_is)
    (case k_are_apart => k_is)
    (case a_meeting_on_line => k_is)
    (case l_meeting_on_line => k_is)
    (case c_meeting_on_line => k_is)
    (case k_meeting_on_line => k_is)
    (case a_common_end => k_is)
    (case l_common_end => k_is)
    (case c_common_end => k_is)
    (case k_common_end => k_is)
    (case a_cut_point => k_is)
    (case l_cut_point => k_is)
    (case c_cut_point => k_is)
    (case k_cut_point => k_is)
    (case a_meeting_of => k_is)
    (case l_meeting_of => k_is)
    (case c_meeting_of => k_is)
    (case k_meeting_of => k_is)
    (case a_meeting => k_is)
    (case l_meeting => k_is)
    (case c_meeting => k_is)
    (case k_meeting => k_is)
    (case a_ways_around => k_is)
    (case l_ways_around => k_is)
    (case c_ways_around => k_is)
    (case k_ways_around => k_is)
    (case a_area_around => k_is)
    (case l_area_around => k_is)
    (case c_area_around => k_is)
    (case k_area_around => k_is)
    (case a_do_follow => k_is)
    (case l_do_follow => k_is)
    (case c_do_follow => k_is)
    (case k_do_follow => k_is)
    (case a_is_simple => k_is)
    (case l_is_simple => k_is)
    (case c_is_simple => k_is)
    (case k_is_simple => k_is)
    (case a_goes_around => k_is)
    (case l_goes_around => k_is)
    (case c_goes_around => k_is)
    (case k_goes_around => k_is)
    (case a_is_ring => k_is)
    (case l_is_ring => k_is)
    (case c_is_ring => k_is)
    (case k_is_ring => k_is)
    (case a_ring_of => k_is)
    (case l_ring_of => k_is)
    (case c_ring_of => k_is)
    (case k_ring_of => k_is)
    (case a_size_of => k_is)
    (case l_size_of => k_is)
    (case c_size_of => k_is)
    (case k_size_of => k_is)
    (case a_place_in => k_is)
    (case l_place_in => k_is)
    (case c_place_in => k_is)
    (case k_place_in => k_is)
    (case a_left_turns => k_is)
    (case l_left_turns => k_is)
    (case c_left_turns => k_is)
    (case k_left_turns => k_is)
    (case a_hull_of => k_is)
    (case l_hull_of => k_is)
    (case c_hull_of => k_is)
    (case k_hull_of => k_is)
    (case a_are_corners => k_is)
    (case l_are_corners => k_is)
    (case c_are_corners => k_is)
    (case k_are_corners => k_is)
    (case a_turns_left => k_is)
    (case l_turns_left => k_is)
    (case c_turns_left => k_is)
    (case k_turns_left => k_is)
    (case a_is_hull => k_is)
    (case l_is_hull => k_is)
    (case c_is_hull => k_is)
    (case k_is_hull => k_is)
    (case a__law_stream => k_is)
    (case l__law_stream => k_is)
    (case c__law_stream => k_is)
    (case k__law_stream => k_is)
    (case a__law_next => k_is)
    (case l__law_next => k_is)
    (case c__law_next => k_is)
    (case k__law_next => k_is)
    (case a__law_sides => k_is)
    (case l__law_sides => k_is)
    (case c__law_sides => k_is)
    (case k__law_sides => k_is)
    (case a__law_rings => k_is)
    (case l__law_rings => k_is)
    (case c__law_rings => k_is)
    (case k__law_rings => k_is)
    (case a__law_told => k_is)
    (case l__law_told => k_is)
    (case c__law_told => k_is)
    (case k__law_told => k_is)
    (case a_law => k_is)
    (case l_law => k_is)
    (case c_law => k_is)
    (case k_law => k_is)
    (case z_abs => k_is)
    (case z_all => k_is)
    (case z_any => k_is)
    (case z_bool => k_is)
    (case z_enumerate => k_is)
    (case z_int => k_is)
    (case z_isinstance => k_is)
    (case z_len => k_is)
    (case z_list => k_is)
    (case z_max => k_is)
    (case z_min => k_is)
    (case z_range => k_is)
    (case z_set => k_is)
    (case z_sorted => k_is)
    (case z_sum => k_is)
    (case z_tuple => k_is)
    (case z_zip => k_is)
    (case v_HIGHEST => k_is)
    (case v_LEAST_OF_RING => k_is)
    (case v_LOWEST => k_is)
    (case v_MOST_OF_HULL => k_is)
    (case v_MOST_OF_LINE => k_is)
    (case v_MOST_OF_RING => k_is)
    (case z_gcd => k_is)
    (case baC => k_is)
    (case bxL => k_is)
    (case bsa => k_is)
    (case bga => k_is)
    (case bgg => k_is)
    (case bnb => k_is)
    (case ba1 => k_is)
    (case bt1 => k_is)
    (case bl1 => k_is)
    (case bc1 => k_is)
    (case bkC => k_is)
    (case beC => k_is)
    (case btC => k_is)
    (case bhC => k_is)
    (case biC => k_is)
    (case bsC => first | rfl | k_is)
    (case e_are_points => rfl)
    (case o_are_points => k_is)
    (case v_are_points => rfl)
    (case nl_are_points => first | rfl | kernel_rfl)
    (case rc_are_points => first | rfl | decide +kernel)
    (case e_is_line => rfl)
    (case o_is_line => k_is)
    (case v_is_line => rfl)
    (case nl_is_line => first | rfl | kernel_rfl)
    (case rc_is_line => first | rfl | decide +kernel)
    (case e_area_around => rfl)
    (case o_area_around => k_is)
    (case v_area_around => rfl)
    (case nl_area_around => first | rfl | kernel_rfl)
    (case rc_area_around => first | rfl | decide +kernel)
    (case e_is_simple => rfl)
    (case o_is_simple => k_is)
    (case v_is_simple => rfl)
    (case nl_is_simple => first | rfl | kernel_rfl)
    (case rc_is_simple => first | rfl | decide +kernel)
    (case e_place_in => rfl)
    (case o_place_in => k_is)
    (case v_place_in => rfl)
    (case nl_place_in => first | rfl | kernel_rfl)
    (case rc_place_in => first | rfl | decide +kernel)
    (case e_are_corners => rfl)
    (case o_are_corners => k_is)
    (case v_are_corners => rfl)
    (case nl_are_corners => first | rfl | kernel_rfl)
    (case rc_are_corners => first | rfl | decide +kernel)
    (case e_turns_left => rfl)
    (case o_turns_left => k_is)
    (case v_turns_left => rfl)
    (case nl_turns_left => first | rfl | kernel_rfl)
    (case rc_turns_left => first | rfl | decide +kernel)
    (case e_is_hull => rfl)
    (case o_is_hull => k_is)
    (case v_is_hull => rfl)
    (case nl_is_hull => first | rfl | kernel_rfl)
    (case rc_is_hull => first | rfl | decide +kernel)

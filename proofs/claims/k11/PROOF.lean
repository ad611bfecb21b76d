import PyProof.Rows.All
import Wide.All
import OpenK.AllK
import Wide.FinOn
import HandS.ForMost
import HandS.ForExc
import HandS.IsInst
import HandS.Wide
import HandS.TupLe
import HandS.TupAny
import HandS.Gcd
import HandS.Codes
import HandS.AnyAll
import KE.KExcIs
import HandS.GenList
import HandS.Walk
import PyProof.SumAny
import PyProof.SeqWrite
import HandS.EndTab
import HandS.Zip
import KE.SortData
import KE.DataMinMax
import KE.DataCmp
import HandS.SortInts
import HandS.Zip
import HandS.Walk
import HandS.Zip0
import HandS.Zip
import HandS.GenList
import HandS.Style
import HandS.TupAny
import KE.KRevSl
import HandS.Walk
import HandS.Deep
import HandS.Strs
import HandS.Style
import HandS.TupAny
import KE.KRevSl
import KE.BitLaws
import HandS.TupSets
import KE.SortData
import HandS.Style
import HandS.TupAny
import HandS.GenOver
import HandS.GenList
import HandS.Walk
import HandS.More
import HandS.TupMul
import KE.DataFind
import HandS.Deep
import KE.DataMinMax
import KE.GoesMore
import KE.GoesNew
import HandS.Zip
import HandS.Walk
import PySem.Challenge.RW_trueatlas_k11_whole_any_hull
set_option Elab.async false
set_option linter.all false
set_option maxRecDepth 100000
set_option maxHeartbeats 4000000
namespace My
open PySem L2
/-! ## heaps: what stood stands; a table of a code object may have grown -/
/-- no table of a code object -/
def NT (o : HO) : Prop := ∀ ps, o ≠ .tbl ps
/-- what was o stands at b -/
def Std (H : Hp) (b : Addr) (o : HO) : Prop := H b = some o ∨ ∃ ps qs, o = .tbl ps ∧ H b = some (.tbl qs) ∧ (TriplesOk ps.toList → TriplesOk qs.toList)
theorem Std.nt {H : Hp} {b : Addr} {o : HO} (h : Std H b o) (n : NT o) : H b = some o := by
  rcases h with h | ⟨ps, _, e, _⟩
  · exact h
  · exact absurd e (n ps)
theorem Std.ne_none {H : Hp} {b : Addr} {o : HO} (h : Std H b o) : H b ≠ none := by
  rcases h with h | ⟨_, _, _, h, _⟩ <;> rw [h] <;> simp
theorem Std.over {H : Hp} {b p : Addr} {o u : HO} (h : Std H b o) (n : b ≠ p) : Std (upd H p u) b o := by
  unfold Std at h ⊢
  rw [upd_ne n]; exact h
theorem Std.next {H H' : Hp} {b : Addr} {o : HO} (h : Std H b o) (k : ∀ u, H b = some u → Std H' b u) : Std H' b o := by
  rcases h with h | ⟨ps, qs, e, h, t⟩
  · exact k o h
  · rcases k _ h with k | ⟨ps2, rs, e2, k, t2⟩
    · exact .inr ⟨ps, qs, e, k, t⟩
    · injection e2 with e2
      subst e2
      exact .inr ⟨ps, rs, e, k, fun z => t2 (t z)⟩
/-- all that was tracked stands -/
def Same (H H' : Hp) : Prop := ∀ b o, H b = some o → Std H' b o
theorem Same.refl (H : Hp) : Same H H := fun _ _ h => .inl h
theorem Same.trans {H H1 H2 : Hp} (a : Same H H1) (b : Same H1 H2) : Same H H2 := fun c o h => (a c o h).next (b c)
theorem Same.free {H H' : Hp} (e : Same H H') {l : Addr} (h : H' l = none) : H l = none := by
  cases q : H l with
  | none => rfl
  | some o => exact absurd h (e l o q).ne_none
theorem Same.get {H H' : Hp} {b : Addr} {o : HO} (e : Same H H') (h : H b = some o) (n : NT o := by intro _ z; cases z) : H' b = some o := (e b o h).nt n
theorem Same.seq {K : PySem.W.Frag} {H H' : Hp} {a : Addr} {xs : List V} (e : Same H H') (h : SqL K H a xs) : SqL K H' a xs := by
  rcases h with (h | ⟨o, h⟩) | h
  · exact .inl (.inl (e.get h))
  · exact .inl (.inr ⟨o, e.get h⟩)
  · exact .inr h
/-! ## the tables of the code objects -/
/-- the tables stand -/
def Tbs (ts : List Addr) (H : Hp) : Prop := ∀ P ∈ ts, GxR.TabG H P
theorem tabG_std {H H' : Hp} {P : Addr} (h : GxR.TabG H P) (k : ∀ u, H P = some u → Std H' P u) : GxR.TabG H' P := by
  obtain ⟨ps, e, t⟩ := h
  rcases k _ e with k | ⟨ps2, qs, e2, k, t2⟩
  · exact ⟨ps, k, t⟩
  · injection e2 with e2
    subst e2
    exact ⟨qs, k, t2 t⟩
theorem Tbs.same {ts : List Addr} {H H' : Hp} (h : Tbs ts H) (e : Same H H') : Tbs ts H' := fun P hP => tabG_std (h P hP) (e P)
theorem same_tab {P : Addr} {H H' : Hp} (g : GxR.TabG H P) (h : GxR.Tabbed P H H') : Same H H' := fun b o e => by
  by_cases q : b = P
  · subst q
    obtain ⟨ps, e1, t⟩ := g
    obtain ⟨qs, e2, t2⟩ := h.1
    rw [e1] at e
    cases e
    exact .inr ⟨ps, qs, rfl, e2, fun _ => t2⟩
  · exact .inl (by rw [h.2 b q]; exact e)
/-! ## small rules -/
theorem pe_gI {X : Cx} {x : Str} {i : Int} {pos : Pos} (hm : ∃ t, X.mg x = some (.int i t)) (hg : Gl X x := by rfl) (hd : (x == ("__debug__" : Str)) = false := by decide) (hcd : (x == ("__classdict__" : Str)) = false := by decide) : PE X (.Name x pos) (tC (.int i)) := by
  obtain ⟨t, e⟩ := hm
  exact pe_glob hg e ⟨t, rfl⟩ hd
theorem ifD {c A B : Prop} [Decidable c] (h1 : c → A) (h2 : ¬ c → B) : if decide c = true then A else B := by
  by_cases h : c
  · rw [if_pos (decide_eq_true h)]; exact h1 h
  · rw [if_neg (by rw [decide_eq_false h]; exact Bool.false_ne_true)]; exact h2 h
theorem ifND {c A B : Prop} [Decidable c] (h1 : ¬ c → A) (h2 : c → B) : if (!decide c) = true then A else B := by
  by_cases h : c
  · rw [if_neg (by rw [decide_eq_true h]; exact Bool.false_ne_true)]; exact h2 h
  · rw [if_pos (by rw [decide_eq_false h]; rfl)]; exact h1 h
theorem ifB {b : Bool} {A B : Prop} (h1 : b = true → A) (h2 : b = false → B) : if b = true then A else B := by
  cases b
  · exact iteF (h2 rfl)
  · exact iteT (h1 rfl)
theorem ifTr {b : Bool} {A B : Prop} (e : b = true) (h : A) : if b = true then A else B := by rw [if_pos e]; exact h
theorem ifFa {b : Bool} {A B : Prop} (e : b = false) (h : B) : if b = true then A else B := by rw [e]; exact iteF h
/-! ## heaps: all that stood stands, but for what is at s -/
def But (s : Addr) (H H' : Hp) : Prop := ∀ b o, b ≠ s → H b = some o → Std H' b o
theorem But.refl {s : Addr} {H : Hp} : But s H H := fun _ _ _ e => .inl e
theorem But.trans {s : Addr} {H H1 H2 : Hp} (a : But s H H1) (b : But s H1 H2) : But s H H2 := fun c o n e => (a c o n e).next fun u k => b c u n k
theorem But.new {s p : Addr} {H : Hp} {o : HO} (n : H p = none) : But s H (upd H p o) := fun b u _ e => .inl (by
  rw [upd_ne (ne_of_none e n)]; exact e)
theorem But.then_new {s p : Addr} {H H1 : Hp} {o : HO} (a : But s H H1) (n : H1 p = none) : But s H (upd H1 p o) := a.trans (But.new n)
theorem But.at {s : Addr} {H : Hp} {o : HO} : But s H (upd H s o) := fun b u n e => .inl (by rw [upd_ne n]; exact e)
theorem But.then_at {s : Addr} {H H1 : Hp} {o : HO} (a : But s H H1) : But s H (upd H1 s o) := a.trans But.at
theorem But.of_same {s : Addr} {H H' : Hp} (a : Same H H') : But s H H' := fun b o _ e => a b o e
theorem But.get {s b : Addr} {H H' : Hp} {o : HO} (e : But s H H') (q : b ≠ s) (h : H b = some o) (n : NT o := by intro _ z; cases z) : H' b = some o := (e b o q h).nt n
theorem same_new {p : Addr} {H : Hp} {o : HO} (n : H p = none) : Same H (upd H p o) := fun b u e => .inl (by
  rw [upd_ne (ne_of_none e n)]; exact e)
theorem same_then {p : Addr} {H H1 : Hp} {o : HO} (a : Same H H1) (n : H1 p = none) : Same H (upd H1 p o) := a.trans (same_new n)
/-- behind a new object's change -/
theorem Same.put {p : Addr} {H H1 : Hp} {o : HO} (a : Same H H1) (n : H p = none) : Same H (upd H1 p o) := fun b u e => (a b u e).over (ne_of_none e n)
theorem But.put {s p : Addr} {H H1 : Hp} {o : HO} (a : But s H H1) (n : H p = none) : But s H (upd H1 p o) := fun b u q e => (a b u q e).over (ne_of_none e n)
/-- the tables stand, whatever becomes of a list -/
theorem Tbs.but {ts : List Addr} {s : Addr} {H H' : Hp} (h : Tbs ts H) (e : But s H H') (l : ∃ xs, H s = some (.lst xs)) : Tbs ts H' := fun P hP => by
  have g := h P hP
  refine tabG_std g fun u k => e P u ?_ k
  obtain ⟨ps, e1, _⟩ := g
  obtain ⟨xs, e2⟩ := l
  intro z
  rw [z, e2] at e1
  cases e1
theorem Tbs.over {ts : List Addr} {p : Addr} {H : Hp} {o : HO} (h : Tbs ts H) (n : H p = none) : Tbs ts (upd H p o) := h.same (same_new n)
theorem Tbs.put {ts : List Addr} {p : Addr} {H : Hp} {o : HO} (h : Tbs ts H) (l : ∃ xs, H p = some (.lst xs)) : Tbs ts (upd H p o) := h.but But.at l
/-- what stands at s is the stream's list: no tuple -/
def Lst (H : Hp) (s : Addr) : Prop := ∃ xs, H s = some (.lst xs)
/-! ## tuples -/
section
variable {K : PySem.W.Frag} {H H' : Hp} {a p s : Addr} {xs : List V} {o : HO}
theorem tHere : SqT K (upd H p (.tup xs)) p xs := SqT.of upd_same
theorem tSame (e : Same H H') (h : SqT K H a xs) : SqT K H' a xs := by
  rcases h with (h | ⟨o, h⟩) | h
  · exact .inl (.inl (e.get h))
  · exact .inl (.inr ⟨o, e.get h⟩)
  · exact .inr h
theorem tOver (n : H p = none) (h : SqT K H a xs) : SqT K (upd H p o) a xs := tSame (same_new n) h
theorem tAt (n : ∃ ys, H s = some (.lst ys)) (h : SqT K H a xs) : SqT K (upd H s o) a xs := by
  obtain ⟨ys, n⟩ := n
  rcases h with (h | ⟨o, h⟩) | h
  · exact .inl (.inl (by rw [upd_ne (ne_of h n (by intro z; cases z))]; exact h))
  · exact .inl (.inr ⟨o, by rw [upd_ne (ne_of h n (by intro z; cases z))]; exact h⟩)
  · exact .inr h
theorem tBut (e : But s H H') (n : Lst H s) (h : SqT K H a xs) : SqT K H' a xs := by
  obtain ⟨ys, n⟩ := n
  rcases h with (h | ⟨o, h⟩) | h
  · exact .inl (.inl (e.get (ne_of h n (by intro z; cases z)) h))
  · exact .inl (.inr ⟨o, e.get (ne_of h n (by intro z; cases z)) h⟩)
  · exact .inr h
theorem lHere : SqL K (upd H p (.lst xs)) p xs := SqL.of upd_same
theorem lOver (n : H p = none) (h : SqL K H a xs) : SqL K (upd H p o) a xs := Same.seq (same_new n) h
theorem rOver (n : H p = none) {u : HO} (h : H a = some u) : upd H p o a = some u := by rw [upd_ne (ne_of_none h n)]; exact h
end
end My
namespace My
open PySem L2
/-! ## kinds of values -/
inductive Ty (K : PySem.W.Frag) (H : Hp) : V → String → Prop where
  | non : Ty K H .non "NoneType"
  | bl (b : Bool) : Ty K H (.bl b) "bool"
  | int (i : Int) : Ty K H (.int i) "int"
  | str (x : Str) : Ty K H (.str x) "str"
  | tup {a : Addr} {xs : List V} (h : SqT K H a xs) : Ty K H (.ref a) "tuple"
  | lst {a : Addr} {xs : List V} (h : SqL K H a xs) : Ty K H (.ref a) "list"
theorem Ty.x {K : PySem.W.Frag} {H : Hp} {v : V} {n : String} (h : Ty K H v n) : TyX K H v (.type n) := by
  cases h with
  | non => exact .base .non
  | bl b => exact .base (.bl b)
  | int i => exact .base (.int i)
  | str x => exact .base (.str x)
  | tup h =>
    rcases h with (h | ⟨o, h⟩) | ⟨o, its, n, e, c, _⟩
    · exact .base (.tup h)
    · exact .fTuple h
    · exact .kTuple e c
  | lst h =>
    rcases h with (h | ⟨o, h⟩) | ⟨o, its, n, e, c, _⟩
    · exact .base (.lst h)
    · exact .base (.frz h)
    · exact .kList e c
/-- isinstance's answers among these -/
def isaB (a b : String) : Bool := (kitB a b).getD false
theorem isa {K : PySem.W.Frag} {a b : String} (h : (kitB a b).isSome = true) : PySem.W.kitOne K (.type a) (.type b) = some (isaB a b) := by
  refine kit_ty ?_
  unfold isaB
  cases e : kitB a b with
  | none => rw [e] at h; cases h
  | some r => rfl
def six : List String := ["NoneType", "bool", "int", "str", "tuple", "list"]
theorem isa_all : (six.all fun a => six.tail.all fun b => (kitB a b).isSome) = true := by decide +kernel
theorem isa_tab : (six.all fun a => six.tail.all fun b => isaB a b == (a == b || (a == "bool" && b == "int"))) = true := by decide +kernel
theorem Ty.six {K : PySem.W.Frag} {H : Hp} {v : V} {n : String} (h : Ty K H v n) : n ∈ six := by
  cases h <;> simp [My.six]
theorem isaN {K : PySem.W.Frag} {n b : String} (h : n ∈ My.six) (hb : b ∈ My.six.tail) : PySem.W.kitOne K (.type n) (.type b) = some (n == b || (n == "bool" && b == "int")) := by
  have h1 := List.all_eq_true.mp (List.all_eq_true.mp isa_all n h) b hb
  have h2 := List.all_eq_true.mp (List.all_eq_true.mp isa_tab n h) b hb
  rw [isa h1, eq_of_beq h2]
theorem small {n : Nat} (h : Nat.ble n 100 = true) : n ≤ sizeLine := Nat.le_trans (Nat.le_of_ble_eq_true h) (by decide)
/-! ## indexes -/
theorem at0 {α : Type} {a : α} {r : List α} : atI (a :: r) 0 = some a := atI_nat (j := 0) rfl
theorem at1 {α : Type} {a b : α} {r : List α} : atI (a :: b :: r) 1 = some b := atI_nat (j := 1) rfl
theorem at2 {α : Type} {a b c : α} {r : List α} : atI (a :: b :: c :: r) 2 = some c := atI_nat (j := 2) rfl
theorem at3 {α : Type} {a b c d : α} {r : List α} : atI (a :: b :: c :: d :: r) 3 = some d := atI_nat (j := 3) rfl
end My
namespace My
open PySem L2
/-! ## points -/
def coordB : V → Bool
  | .int i => decide (-1000 ≤ i) && decide (i ≤ 1000)
  | _ => false
def pointB : List V → Bool
  | [u, v] => coordB u && coordB v
  | _ => false
/-- small enough to be multiplied -/
def Sm (x : Int) : Prop := -1099511627776 ≤ x ∧ x ≤ 1099511627776
def turnI (ax ay bx dy cx cy : Int) : Int := (bx - ax) * (cy - ay) - (dy - ay) * (cx - ax)
/-- whether a point's numbers are those of the map -/
def On (x y : Int) : Prop := -1000 ≤ x ∧ x ≤ 1000 ∧ -1000 ≤ y ∧ y ≤ 1000
theorem On.b {x y : Int} (h : On x y) : pointB [.int x, .int y] = true := by
  obtain ⟨h1, h2, h3, h4⟩ := h
  simp [pointB, coordB, h1, h2, h3, h4]
theorem On.sx {x y : Int} (h : On x y) : Sm x := by unfold On at h; unfold Sm; omega
theorem On.sy {x y : Int} (h : On x y) : Sm y := by unfold On at h; unfold Sm; omega
/-! ## the stream of a law -/
/-- at s: a stream: a list of ints, the cell, its number -/
def Strm (H : Hp) (s b : Addr) : Prop := ∃ (ns : List Int) (c k : Int), H b = some (.lst (ns.map V.int)) ∧ H s = some (.lst [.ref b, .int c, .int k]) ∧ 0 ≤ c ∧ 0 ≤ k
theorem Strm.lst {H : Hp} {s b : Addr} (h : Strm H s b) : Lst H s := by
  obtain ⟨_, _, _, _, h, _⟩ := h
  exact ⟨_, h⟩
theorem tyL {K : PySem.W.Frag} {H : Hp} {p : Addr} {xs : List V} (h : H p = some (.lst xs)) : tyV K "list" (.ref p) H := .inl ⟨rfl, xs, SqL.of h⟩
theorem Strm.same {H H' : Hp} {s b : Addr} (h : Strm H s b) (e : Same H H') : Strm H' s b := by
  obtain ⟨ns, c, k, h1, h2, h3, h4⟩ := h
  exact ⟨ns, c, k, e.get h1 (by intro _ z; cases z), e.get h2, h3, h4⟩
theorem Strm.over {H : Hp} {s b p : Addr} {o : HO} (h : Strm H s b) (n : H p = none) : Strm (upd H p o) s b := h.same (same_new n)
/-- a list of the law's own grows -/
theorem Strm.at {H : Hp} {s b p : Addr} {o : HO} (h : Strm H s b) (n1 : p ≠ s) (n2 : p ≠ b) : Strm (upd H p o) s b := by
  obtain ⟨ns, c, k, h1, h2, h3, h4⟩ := h
  exact ⟨ns, c, k, by rw [upd_ne n2.symm]; exact h1, by rw [upd_ne n1.symm]; exact h2, h3, h4⟩
theorem Strm.new1 {H : Hp} {s b p : Addr} (h : Strm H s b) (n : H p = none) : p ≠ s := by
  obtain ⟨ns, c, k, h1, h2, h3, h4⟩ := h
  exact (ne_of_none h2 n).symm
theorem Strm.new2 {H : Hp} {s b p : Addr} (h : Strm H s b) (n : H p = none) : p ≠ b := by
  obtain ⟨ns, c, k, h1, h2, h3, h4⟩ := h
  exact (ne_of_none h1 n).symm
theorem ints_no_ref {ns : List Int} {b : Addr} {r : List V} : HO.lst (ns.map V.int) ≠ HO.lst (.ref b :: r) := by
  intro e
  cases ns with
  | nil => injection e with e; cases e
  | cons n ns => injection e with e; injection e with e _; cases e
/-- the two objects of a stream stand apart -/
theorem Strm.ne {H : Hp} {b s : Addr} {ns : List Int} {x : Addr} {r : List V} (h1 : H b = some (.lst (ns.map V.int))) (h2 : H s = some (.lst (.ref x :: r))) : b ≠ s := ne_of h1 h2 ints_no_ref
/-! ## digits -/
theorem fmod_lt {a m : Int} (hm : 0 < m) : a.fmod m < m := by
  rw [Int.fmod_eq_emod_of_nonneg _ (Int.le_of_lt hm)]; exact Int.emod_lt_of_pos _ hm
theorem fmod_ge {a m : Int} (hm : 0 < m) : 0 ≤ a.fmod m := by
  rw [Int.fmod_eq_emod_of_nonneg _ (Int.le_of_lt hm)]; exact Int.emod_nonneg _ (by omega)
theorem div_ge {a m : Int} (ha : 0 ≤ a) (hm : 0 < m) : 0 ≤ a / m := Int.ediv_nonneg ha (Int.le_of_lt hm)
end My
namespace My
open PySem L2
/-! ## two values with the same content, to a depth below n -/
inductive Dq (K : PySem.W.Frag) (H : Hp) : Nat → V → V → Prop where
  | non (n : Nat) : Dq K H (n + 1) .non .non
  | bl (n : Nat) (b : Bool) : Dq K H (n + 1) (.bl b) (.bl b)
  | int (n : Nat) (i : Int) : Dq K H (n + 1) (.int i) (.int i)
  | str (n : Nat) (x : Str) : Dq K H (n + 1) (.str x) (.str x)
  | lst {n : Nat} {a b : Addr} {xs ys : List V} (h1 : SqL K H a xs) (h2 : SqL K H b ys) (hl : xs.length = ys.length) (hz : ys.length ≤ 1000)
      (h : ∀ (i : Nat) u v, xs[i]? = some u → ys[i]? = some v → Dq K H n u v) : Dq K H (n + 1) (.ref a) (.ref b)
  | tup {n : Nat} {a b : Addr} {xs ys : List V} (h1 : SqT K H a xs) (h2 : SqT K H b ys) (hl : xs.length = ys.length) (hz : ys.length ≤ 1000)
      (h : ∀ (i : Nat) u v, xs[i]? = some u → ys[i]? = some v → Dq K H n u v) : Dq K H (n + 1) (.ref a) (.ref b)
theorem Dq.same {K : PySem.W.Frag} {H H' : Hp} (e : Same H H') {n : Nat} {x y : V} (h : Dq K H n x y) : Dq K H' n x y := by
  induction h with
  | non n => exact .non n
  | bl n b => exact .bl n b
  | int n i => exact .int n i
  | str n x => exact .str n x
  | lst h1 h2 hl hz _ ih => exact .lst (e.seq h1) (e.seq h2) hl hz ih
  | tup h1 h2 hl hz _ ih => exact .tup (tSame e h1) (tSame e h2) hl hz ih
theorem get_at {xs : List V} {i : Nat} (h : i < xs.length) : xs[i]? = some xs[i] := List.getElem?_eq_getElem h
end My
namespace My
open PySem L2
section
variable {K : PySem.W.Frag} {H H' : Hp} {a p s : Addr} {xs : List V} {o : HO}
/-- a new list stands behind a draw -/
theorem rBut {b : Addr} (e : But s (upd H p o) H') (n : H p = none) (S : Strm H s b) (nt : NT o := by intro _ z; cases z) : H' p = some o := by
  obtain ⟨ns, c, k, h1, h2, _⟩ := S
  exact e.get (ne_of_none h2 n).symm upd_same nt
theorem tButS {b : Addr} (e : But s H H') (S : Strm H s b) (h : SqT K H a xs) : SqT K H' a xs := tBut e S.lst h
end
/-- a point within far -/
def In (f x y : Int) : Prop := -f ≤ x ∧ x ≤ f ∧ -f ≤ y ∧ y ≤ f
theorem In.on {f x y : Int} (h : In f x y) (hf : f ≤ 1000) : On x y := by unfold In at h; unfold On; omega
/-! ## turns -/
theorem turn_swap (ax ay bx dy cx cy : Int) : turnI bx dy ax ay cx cy = 0 - turnI ax ay bx dy cx cy := by unfold turnI; grind
end My
namespace My
open PySem L2
theorem two_ints {K : PySem.W.Frag} {H : Hp} {x y : Int} : ∀ v ∈ [V.int x, V.int y], ∃ m, Ty K H v m := by
  intro v hv
  rcases List.mem_cons.mp hv with rfl | hv
  · exact ⟨_, .int _⟩
  · rcases List.mem_cons.mp hv with rfl | hv
    · exact ⟨_, .int _⟩
    · cases hv
end My
namespace My
open PySem L2
/-! ## lists of points: each with where it stands -/
abbrev Zp := Addr × Int × Int
/-- what a list of points holds -/
abbrev refs (zs : List Zp) : List V := zs.map fun z => V.ref z.1
def Pts (K : PySem.W.Frag) (H : Hp) (zs : List Zp) : Prop := ∀ z ∈ zs, SqT K H z.1 [.int z.2.1, .int z.2.2]
section
variable {K : PySem.W.Frag} {H H' : Hp} {s b D p : Addr} {zs : List Zp} {z : Zp} {o : HO}
theorem Pts.nil : Pts K H [] := fun _ h => by cases h
theorem Pts.same (e : Same H H') (h : Pts K H zs) : Pts K H' zs := fun z hz => tSame e (h z hz)
theorem Pts.but (e : But s H H') (S : Strm H s b) (h : Pts K H zs) : Pts K H' zs := fun z hz => tButS e S (h z hz)
theorem Pts.over (n : H p = none) (h : Pts K H zs) : Pts K (upd H p o) zs := h.same (same_new n)
theorem Pts.at (n : ∃ ys, H D = some (.lst ys)) (h : Pts K H zs) : Pts K (upd H D o) zs := fun z hz => tAt n (h z hz)
theorem Pts.one (h : SqT K H z.1 [.int z.2.1, .int z.2.2]) : Pts K H [z] := fun y hy => by
  rw [List.mem_singleton] at hy; rw [hy]; exact h
theorem Pts.app {ys : List Zp} (h : Pts K H zs) (g : Pts K H ys) : Pts K H (zs ++ ys) := fun y hy =>
  (List.mem_append.mp hy).elim (h y) (g y)
theorem Pts.get (h : Pts K H zs) {i : Nat} (e : zs[i]? = some z) : SqT K H z.1 [.int z.2.1, .int z.2.2] := h z (List.mem_of_getElem? e)
end
theorem line_of {n : Nat} (h : n ≤ 1000) : n < sizeLine := small1000 h
end My
namespace My
open PySem L2
/-! ## greatest common divisors -/
/-- the state of Euclid's loop behind i turns -/
structure GI (n d M i x y : Nat) : Prop where
  g : Nat.gcd x y = Nat.gcd n d
  hy : y * 2 ^ (i / 2) ≤ M
  hx : x * 2 ^ ((i - 1) / 2) ≤ M
  le : 1 ≤ i → y ≤ x
theorem GI.done {n d x y k : Nat} (h : GI n d (2 ^ k) 40000 x y) (hk : k < 20000) : y = 0 := by
  rcases Nat.eq_zero_or_pos y with z | z
  · exact z
  · have h1 : y * 2 ^ 20000 ≤ 2 ^ k := h.hy
    have h2 : 1 * 2 ^ 20000 ≤ y * 2 ^ 20000 := Nat.mul_le_mul_right _ z
    have h3 : 2 ^ k < 2 ^ 20000 := Nat.pow_lt_pow_right (by decide) hk
    rw [Nat.one_mul] at h2
    exact absurd (Nat.le_trans h2 h1) (Nat.not_le.mpr h3)
/-- the divisor with the sign of d -/
def sgcd (n d : Int) : Int := if d < 0 then 0 - (Nat.gcd n.natAbs d.natAbs : Int) else (Nat.gcd n.natAbs d.natAbs : Int)
def lowN (n d : Int) : Int := n.fdiv (sgcd n d)
def lowD (n d : Int) : Int := d.fdiv (sgcd n d)
theorem gcd_pos {n d : Int} (h : d ≠ 0) : 0 < Nat.gcd n.natAbs d.natAbs := Nat.gcd_pos_of_pos_right _ (by omega)
theorem sgcd_ne {n d : Int} (h : d ≠ 0) : sgcd n d ≠ 0 := by
  have := gcd_pos (n := n) h
  unfold sgcd
  split <;> omega
/-- what the lowest terms are -/
structure LowOk (n d N D : Int) : Prop where
  mul : ∃ g : Int, g ≠ 0 ∧ n = g * N ∧ d = g * D
  pos : 0 < D
  one : Nat.gcd N.natAbs D.natAbs = 1
theorem fdiv_mul {g x : Int} (h : g ≠ 0) : (g * x).fdiv g = x := by
  rw [Int.fdiv_eq_ediv_of_dvd (Int.dvd_mul_right g x), Int.mul_ediv_cancel_left _ h]
theorem low_ok {n d : Int} (h : d ≠ 0) : LowOk n d (lowN n d) (lowD n d) := by
  have hg := gcd_pos (n := n) h
  have hs := sgcd_ne (n := n) h
  obtain ⟨a, ha⟩ := Nat.gcd_dvd_left n.natAbs d.natAbs
  obtain ⟨b, hb⟩ := Nat.gcd_dvd_right n.natAbs d.natAbs
  have co : Nat.gcd a b = 1 := by
    have e : Nat.gcd (Nat.gcd n.natAbs d.natAbs * a) (Nat.gcd n.natAbs d.natAbs * b) = Nat.gcd n.natAbs d.natAbs * Nat.gcd a b := Nat.gcd_mul_left _ _ _
    rw [← ha, ← hb] at e
    have e' : Nat.gcd n.natAbs d.natAbs * 1 = Nat.gcd n.natAbs d.natAbs * Nat.gcd a b := by rw [Nat.mul_one]; exact e
    exact (Nat.eq_of_mul_eq_mul_left hg e').symm
  -- both as multiples of the divisor
  have dn : sgcd n d ∣ n := by
    have : ((Nat.gcd n.natAbs d.natAbs : Nat) : Int) ∣ n := Int.ofNat_dvd_left.mpr (Nat.gcd_dvd_left _ _)
    unfold sgcd
    split
    · rw [Int.zero_sub]; exact Int.neg_dvd.mpr this
    · exact this
  have dd : sgcd n d ∣ d := by
    have : ((Nat.gcd n.natAbs d.natAbs : Nat) : Int) ∣ d := Int.ofNat_dvd_left.mpr (Nat.gcd_dvd_right _ _)
    unfold sgcd
    split
    · rw [Int.zero_sub]; exact Int.neg_dvd.mpr this
    · exact this
  obtain ⟨N, hN⟩ := dn
  obtain ⟨D, hD⟩ := dd
  have eN : lowN n d = N := by
    unfold lowN
    rw [show n.fdiv (sgcd n d) = (sgcd n d * N).fdiv (sgcd n d) from congrArg (fun z => Int.fdiv z (sgcd n d)) hN]
    exact fdiv_mul hs
  have eD : lowD n d = D := by
    unfold lowD
    rw [show d.fdiv (sgcd n d) = (sgcd n d * D).fdiv (sgcd n d) from congrArg (fun z => Int.fdiv z (sgcd n d)) hD]
    exact fdiv_mul hs
  have sa : (sgcd n d).natAbs = Nat.gcd n.natAbs d.natAbs := by unfold sgcd; split <;> omega
  have aN : N.natAbs = a := by
    have e := congrArg Int.natAbs hN
    rw [Int.natAbs_mul, sa] at e
    exact Nat.eq_of_mul_eq_mul_left hg (e.symm.trans ha)
  have aD : D.natAbs = b := by
    have e := congrArg Int.natAbs hD
    rw [Int.natAbs_mul, sa] at e
    exact Nat.eq_of_mul_eq_mul_left hg (e.symm.trans hb)
  rw [eN, eD]
  refine ⟨⟨_, hs, hN, hD⟩, ?_, by rw [aN, aD]; exact co⟩
  -- the sign
  have sg : (d < 0 → sgcd n d < 0) ∧ (0 ≤ d → 0 < sgcd n d) := by unfold sgcd; split <;> omega
  by_cases hd : d < 0
  · have s1 := sg.1 hd
    by_cases hp : 0 < D
    · exact hp
    · exfalso
      have : 0 ≤ sgcd n d * D := Int.mul_nonneg_of_nonpos_of_nonpos (by omega) (by omega)
      omega
  · have s1 := sg.2 (by omega)
    by_cases hp : 0 < D
    · exact hp
    · exfalso
      have : sgcd n d * D ≤ 0 := Int.mul_nonpos_of_nonneg_of_nonpos (by omega) (by omega)
      omega
theorem LowOk.leN {n d N D : Int} (h : LowOk n d N D) : N.natAbs ≤ n.natAbs := by
  obtain ⟨⟨g, hg, h1, _⟩, _, _⟩ := h
  rw [h1, Int.natAbs_mul]
  exact Nat.le_mul_of_pos_left _ (by omega)
theorem LowOk.leD {n d N D : Int} (h : LowOk n d N D) : D.natAbs ≤ d.natAbs := by
  obtain ⟨⟨g, hg, _, h1⟩, _, _⟩ := h
  rw [h1, Int.natAbs_mul]
  exact Nat.le_mul_of_pos_left _ (by omega)
/-! ## fractions as values -/
def fracB : List V → Bool
  | [.int n, .int d] => decide (1 ≤ d) && (Nat.gcd n.natAbs d.natAbs == 1)
  | _ => false
/-- x is a value of which is_fraction is b -/
def FV (K : PySem.W.Frag) (H : Hp) (x : V) (b : Bool) : Prop := ∃ n, Ty K H x n ∧ (n = "tuple" → ∃ a xs, x = .ref a ∧ SqT K H a xs ∧ (∀ v ∈ xs, ∃ m, Ty K H v m) ∧ b = fracB xs) ∧ (n ≠ "tuple" → b = false)
theorem Ty.same {K : PySem.W.Frag} {H H' : Hp} (e : Same H H') {v : V} {n : String} (h : Ty K H v n) : Ty K H' v n := by
  cases h with
  | non => exact .non
  | bl b => exact .bl b
  | int i => exact .int i
  | str x => exact .str x
  | tup h => exact .tup (tSame e h)
  | lst h => exact .lst (e.seq h)
theorem FV.same {K : PySem.W.Frag} {H H' : Hp} (e : Same H H') {x : V} {b : Bool} (h : FV K H x b) : FV K H' x b := by
  obtain ⟨n, t, h1, h2⟩ := h
  refine ⟨n, t.same e, fun q => ?_, h2⟩
  obtain ⟨a, xs, e1, e2, e3, e4⟩ := h1 q
  exact ⟨a, xs, e1, tSame e e2, fun v hv => by obtain ⟨m, hm⟩ := e3 v hv; exact ⟨m, hm.same e⟩, e4⟩
theorem FV.tup {K : PySem.W.Frag} {H : Hp} {a : Addr} {xs : List V} (h : SqT K H a xs) (hm : ∀ v ∈ xs, ∃ m, Ty K H v m) : FV K H (.ref a) (fracB xs) :=
  ⟨"tuple", .tup h, fun _ => ⟨a, xs, rfl, h, hm, rfl⟩, fun q => absurd rfl q⟩
theorem FV.ok {K : PySem.W.Frag} {H : Hp} {a : Addr} {n d : Int} (h : SqT K H a [.int n, .int d]) (h1 : 0 < d) (h2 : Nat.gcd n.natAbs d.natAbs = 1) : FV K H (.ref a) true := by
  have e : fracB [.int n, .int d] = true := by
    show (decide (1 ≤ d) && (Nat.gcd n.natAbs d.natAbs == 1)) = true
    rw [h2, decide_eq_true (show 1 ≤ d by omega)]
    rfl
  rw [← e]
  exact FV.tup h two_ints
end My
namespace My
open PySem L2
/-! ## fractions at an address -/
structure FrAt (K : PySem.W.Frag) (H : Hp) (a : Addr) (n d : Int) : Prop where
  at_ : SqT K H a [.int n, .int d]
  pos : 0 < d
  one : Nat.gcd n.natAbs d.natAbs = 1
  bn : n.natAbs ≤ 2 ^ 67
  bd : d.natAbs ≤ 2 ^ 50
section
variable {K : PySem.W.Frag} {H H' : Hp} {s b p a c D : Addr} {n d m e : Int} {o : HO}
theorem FrAt.same (e : Same H H') (h : FrAt K H a n d) : FrAt K H' a n d := { h with at_ := tSame e h.at_ }
theorem FrAt.but (e : But s H H') (S : Strm H s b) (h : FrAt K H a n d) : FrAt K H' a n d := { h with at_ := tButS e S h.at_ }
theorem FrAt.over (q : H p = none) (h : FrAt K H a n d) : FrAt K (upd H p o) a n d := h.same (same_new q)
theorem FrAt.put (q : ∃ ys, H D = some (.lst ys)) (h : FrAt K H a n d) : FrAt K (upd H D o) a n d := { h with at_ := tAt q h.at_ }
theorem mul_le {i j : Int} {x y : Nat} (hi : i.natAbs ≤ 2 ^ x) (hj : j.natAbs ≤ 2 ^ y) : (i * j).natAbs ≤ 2 ^ (x + y) := by
  rw [Int.natAbs_mul, Nat.pow_add]; exact Nat.mul_le_mul hi hj
theorem add_le {i j : Int} {x : Nat} (hi : i.natAbs ≤ 2 ^ x) (hj : j.natAbs ≤ 2 ^ x) : (i + j).natAbs ≤ 2 ^ (x + 1) := by
  have := Int.natAbs_add_le i j
  rw [Nat.pow_succ]; omega
theorem sub_le {i j : Int} {x : Nat} (hi : i.natAbs ≤ 2 ^ x) (hj : j.natAbs ≤ 2 ^ x) : (i - j).natAbs ≤ 2 ^ (x + 1) := by
  have := Int.natAbs_sub_le i j
  rw [Nat.pow_succ]; omega
theorem mul_ne {i j : Int} (hi : 0 < i) (hj : 0 < j) : i * j ≠ 0 := by
  have := Int.mul_pos hi hj; omega
end
/-! ## what a try of the law tells -/
abbrev Rs := (Int × Int) ⊕ Str ⊕ Bool
def TV (K : PySem.W.Frag) (H : Hp) (v : V) : Rs → Prop
  | .inl (a, b) => ∃ p, v = .ref p ∧ SqT K H p [.int a, .int b]
  | .inr (.inl s) => ∃ p, v = .ref p ∧ SqL K H p [.str "refused", .str s]
  | .inr (.inr b) => v = .bl b
theorem TV.same {K : PySem.W.Frag} {H H' : Hp} (e : Same H H') {v : V} {r : Rs} (h : TV K H v r) : TV K H' v r := by
  match r, h with
  | .inl (a, b), ⟨p, e1, h⟩ => exact ⟨p, e1, tSame e h⟩
  | .inr (.inl s), ⟨p, e1, h⟩ => exact ⟨p, e1, e.seq h⟩
  | .inr (.inr b), h => exact h
theorem lAt {K : PySem.W.Frag} {H : Hp} {a D : Addr} {xs : List V} {o : HO} (n : a ≠ D) (h : SqL K H a xs) : SqL K (upd H D o) a xs := by
  rcases h with (h | ⟨o, h⟩) | h
  · exact .inl (.inl (by rw [upd_ne n]; exact h))
  · exact .inl (.inr ⟨o, by rw [upd_ne n]; exact h⟩)
  · exact .inr h
theorem TV.put {K : PySem.W.Frag} {H : Hp} {D : Addr} {o : HO} (q : ∃ ys, H D = some (.lst ys)) {v : V} {r : Rs} (n : v ≠ .ref D) (h : TV K H v r) : TV K (upd H D o) v r := by
  match r, h with
  | .inl (a, b), ⟨p, e1, h⟩ => exact ⟨p, e1, tAt q h⟩
  | .inr (.inl s), ⟨p, e1, h⟩ => exact ⟨p, e1, lAt (fun z => n (by rw [e1, z])) h⟩
  | .inr (.inr b), h => exact h
end My
namespace PySem
namespace BvX
open PySem.W PySem.Calls PyProof.Rows PySem.HandSPX
/-! ### the text of __init__ -/
def iA (p1 p2 : Pos) : Arguments := { posonlyargs := [], args := [{ arg := "self", annotation := none, pos := p1 }, { arg := "name", annotation := none, pos := p2 }], vararg := none, kwonlyargs := [], kw_defaults := [], kwarg := none, defaults := [] }
def iB (q1 q2 q3 q4 : Pos) : List Stmt := [.Assign [.Attribute (.Name "self" q1) "name" q2] (.Name "name" q3) q4]
def iS : Scope := { kind := .function, names := [(PySem.Str.ofString "self", .local), (PySem.Str.ofString "name", .local)], isGenerator := false, isCoroutine := false, more := [] }
/-- what the written part says of Low, at C, and of its __init__, at fI -/
structure BvTxt (K : Frag) (mg : Str → Option Value) (C fI : Addr) : Prop where
  gC : mg "BadValue" = some (.ref C)
  cls : ∃ nm q N bs bm sn sub ab col dd k0 k1 k2 k3 k5, K.lookup C = some (excClassObj nm q C N bs bm true sn sub ab col dd k0 k1 k2 k3 k5 "ValueError.__new__") ∧ refsVE bm = true
  sa : findIn K (.ref C) "__setattr__" = some (some (.builtin "object.__setattr__"))
  ga : findIn K (.ref C) "__getattribute__" = some (some (.builtin "BaseException.__getattribute__"))
  gg : findIn K (.ref C) "__getattr__" = some none
  noN : findIn K (.ref C) "name" = some none
  iC : findIn K (.ref C) "__init__" = some (some (.ref fI))
  tC : typeIn K (.ref fI) = some (.type "function")
  kC : keepIn K (.ref C) = true
  exC : subIn K (.ref C) (.type "BaseException") = some true
  tyC : typeIn K (.ref C) = some (.type "type")
  hdC : hasDictIn K C = true
  te : exmOne K (.ref C) (.ref C) = some true
  fn : ∃ (oc : Value) (od : Option Addr) (doc pm : Value) (an : Option Addr) (cdv ct : Value) (osl : Array (Option Value)) (p1 p2 q1 q2 q3 q4 : Pos),
    K.lookup fI = some ⟨oc, od, .func (fnOf "__init__" "BadValue.__init__" (iA p1 p2) (iB q1 q2 q3 q4) iS .none .none doc pm an cdv ct), osl⟩ ∧ codeIn K cdv "BadValue.__init__" = true
end BvX
end PySem
namespace L2
open PySem PySem.Spec PyProof.Rows
end L2
namespace L2
open PySem PySem.Spec PyProof.Rows
end L2
namespace My
open PySem L2
/-- an error of the class at S is what «except S» names -/
theorem exm_self {K : PySem.W.Frag} {S : Addr} (h1 : PySem.W.subIn K (.ref S) (.type "BaseException") = some true) (h2 : PySem.W.isClsIn K S = true) (h3 : PySem.W.typeIn K (.ref S) = some (.type "type")) (h4 : PySem.W.subIn K (.ref S) (.ref S) = some true) :
    PySem.W.exmOne K (.ref S) (.ref S) = some true := by
  have e1 : (PySem.W.subIn K (.ref S) (.type "BaseException") == some true) = true := by rw [h1] <;> rfl
  have e2 : ((PySem.W.clsIn K S).isSome && PySem.W.typeIn K (.ref S) == some (.type "type")) = true := by
    have h2' : (PySem.W.clsIn K S).isSome = true := h2
    rw [h2', h3] <;> rfl
  show (if (PySem.W.subIn K (.ref S) (.type "BaseException") == some true) = true then (if ((PySem.W.clsIn K S).isSome && PySem.W.typeIn K (.ref S) == some (.type "type")) = true then PySem.W.subIn K (.ref S) (.ref S) else none) else none) = some true
  rw [if_pos e1, if_pos e2]
  exact h4
end My
namespace L2
open PySem PySem.Spec PyProof.Rows
end L2
namespace PySem
namespace Gx
open PySem.W PySem.Calls PyProof.Rows
section
variable {prog : Program} {w : World} {A : Around} {R : Result → Shared → Prop} {I : Addr}
/-- all's loop: m bounds the turns that are left -/
theorem all_loop (W : Nat → Shared → Prop) (step : ∀ m s, W m s → wpAny (model prog w) A.in1 (pyNext (.ref I)) (fun r s' => match r with
    | none => R (.ok (.ret (.bool true))) s'
    | some v => ∃ b, v = .bool b ∧ if b = true then ∃ m', m' < m ∧ W m' s' else R (.ok (.ret (.bool false))) s') (fun e s' => R (.error e) s') s) :
    ∀ (m : Nat) (s : Shared), W m s → codeAny (model prog w) A (.builtin "all.loop" ⟨[.ref I], []⟩) R s := by
  intro m
  induction m using Nat.strongRecOn with
  | ind m ih =>
    intro s hW
    refine codeAny_builtin F.entry_all_loop ?_
    rw [Around.under_plainId F.plain_all_loop _]
    show wpAny _ A.in1 (pyNext (.ref I) >>= _) _ _ s
    refine wpAny_bind (wpAny_mono (step m s hW) (fun r s' h => ?_) fun _ _ e => e)
    cases r with
    | none => exact wpAny_bind (wpAny_rule (wpAny_pure h))
    | some v =>
      obtain ⟨b, rfl, h⟩ := h
      refine wpAny_bind (wpAny_holding (wpAny_truthy_bool ?_))
      refine wpAny_bind (wpAny_letGo ?_)
      cases b with
      | true =>
        simp only [if_true] at h ⊢
        obtain ⟨m', hm, hW'⟩ := h
        exact wpAny_pure ⟨plainId_quiet F.plain_all_loop _, ih m' hm s' hW'⟩
      | false =>
        simp only [Bool.false_eq_true, if_false] at h ⊢
        exact wpAny_bind (wpAny_rule (wpAny_pure h))
theorem any_loop (W : Nat → Shared → Prop) (step : ∀ m s, W m s → wpAny (model prog w) A.in1 (pyNext (.ref I)) (fun r s' => match r with
    | none => R (.ok (.ret (.bool false))) s'
    | some v => ∃ b, v = .bool b ∧ if b = true then R (.ok (.ret (.bool true))) s' else ∃ m', m' < m ∧ W m' s') (fun e s' => R (.error e) s') s) :
    ∀ (m : Nat) (s : Shared), W m s → codeAny (model prog w) A (.builtin "any.loop" ⟨[.ref I], []⟩) R s := by
  intro m
  induction m using Nat.strongRecOn with
  | ind m ih =>
    intro s hW
    refine codeAny_builtin F.entry_any_loop ?_
    rw [Around.under_plainId F.plain_any_loop _]
    show wpAny _ A.in1 (pyNext (.ref I) >>= _) _ _ s
    refine wpAny_bind (wpAny_mono (step m s hW) (fun r s' h => ?_) fun _ _ e => e)
    cases r with
    | none => exact wpAny_bind (wpAny_rule (wpAny_pure h))
    | some v =>
      obtain ⟨b, rfl, h⟩ := h
      refine wpAny_bind (wpAny_holding (wpAny_truthy_bool ?_))
      refine wpAny_bind (wpAny_letGo ?_)
      cases b with
      | true =>
        simp only [if_true] at h ⊢
        exact wpAny_bind (wpAny_rule (wpAny_pure h))
      | false =>
        simp only [Bool.false_eq_true, if_false] at h ⊢
        obtain ⟨m', hm, hW'⟩ := h
        exact wpAny_pure ⟨plainId_quiet F.plain_any_loop _, ih m' hm s' hW'⟩
end
/-! ### the generator's side -/
/-- while the generator sleeps: the heap stands, the table of generators stays bare -/
structure Sl (s s' : Shared) : Prop where
  os : s'.os = s.os
  bare : AllBare s'.gens
  heap : s'.heap = s.heap
/-- a value is handed out: C of it; then on, if it is one that lets the consumer go on -/
def Yx (Sr : Value → Shared → Shared → Prop) (C : Shared → Value → Shared → Prop) (Go : Value → Prop) : Protocol := fun _ s₀ v s kap => C s₀ v s ∧ (Go v → ∀ s', Sr v s s' → kap (.send .none) s')
def Rx (Dn : Shared → Shared → Prop) : GenEnd := fun _ s₀ r s => r = .ok .next ∧ Dn s₀ s
section
variable {prog : Program} {w : World} {A : Around}
theorem seg_loop {elt tg iter : Expr} {ifs : List Expr} {scope : Scope} {pos : Pos} {I : Addr} {cenv : Env} {Sr : Value → Shared → Shared → Prop} {C : Shared → Value → Shared → Prop} {Go : Value → Prop} {Dn : Shared → Shared → Prop} {B : Around}
    (hB : A.over (.compLoop (.GeneratorExp elt [⟨tg, iter, ifs, 0⟩] scope pos) 0 (.ref I) .none cenv) [] = B) (hco : cenv.scope.isCoroutine = false) (W : Nat → Shared → Shared → Prop)
    (turn : ∀ m s₀ s, W m s₀ s → wpAny (model prog w) B (pyNext (.ref I)) (fun r s1 => match r with
      | none => Dn s₀ s1
      | some v => wpAny (model prog w) B (letOwnedTupleGo tg (.ref I) v) (fun _ s1' => wpAny (model prog w) B (assign tg cenv v) (fun _ s2 => wpAny (model prog w) B (forIn ifs true fun c r => if r = true then do let ok ← isTrue c cenv (eval c cenv); pure (ForInStep.yield ok) else pure (ForInStep.yield r)) (fun ok s3 =>
          if ok = true then wpAny (model prog w) B (eval elt cenv) (fun y s4 => C s₀ y s4 ∧ (Go y → ∃ m', m' < m ∧ ∀ s', Sr y s4 s' → W m' s' s')) (fun _ _ => False) s3 else ∃ m', m' < m ∧ W m' s₀ s3) (fun _ _ => False) s2) (fun _ _ => False) s1') (fun _ _ => False) s1) (fun _ _ => False) s) :
    ∀ (m n : Nat) (s₀ s : Shared), m < n → W m s₀ s → Seg (model prog w) A (Rx Dn) (Yx Sr C Go) n s₀
      (.compLoop (.GeneratorExp elt [⟨tg, iter, ifs, 0⟩] scope pos) 0 (.ref I) .none cenv)
      ((model prog w).den (.compLoop (.GeneratorExp elt [⟨tg, iter, ifs, 0⟩] scope pos) 0 (.ref I) .none cenv)) [] s := by
  subst hB
  intro m
  induction m using Nat.strongRecOn with
  | ind m ih =>
    intro n s₀ s hn hW
    show Seg _ A _ _ _ s₀ _ ((compTurn (.GeneratorExp elt [⟨tg, iter, ifs, 0⟩] scope pos) 0 (.ref I) .none cenv).onRaise (leaving cenv)) [] s
    rw [compTurn_gen, Sem.onRaise_eq_wrap]
    refine seg_bind_wrap (wpAny_standAt ?_)
    refine seg_bind_wrap (wpAny_mono (turn m s₀ s hW) (fun r s1 h => ?_) fun _ _ e => e.elim)
    cases r with
    | none => exact seg_end (.ok .next) ⟨rfl, h⟩
    | some v =>
      refine seg_bind_wrap (wpAny_mono h (fun _ s1' h => ?_) fun _ _ e => e.elim)
      refine seg_bind_wrap (wpAny_mono h (fun _ s2 h => ?_) fun _ _ e => e.elim)
      refine seg_bind_wrap (wpAny_mono h (fun ok s3 h => ?_) fun _ _ e => e.elim)
      cases ok with
      | false =>
        simp only [Bool.false_eq_true, if_false] at h ⊢
        obtain ⟨m', hm, hW'⟩ := h
        exact seg_again rfl (ih m' hm n s₀ s3 (by omega) hW')
      | true =>
        simp only [if_true] at h ⊢
        have hy : ∀ v, yieldOut cenv v = yieldValue v := fun v => by simp only [yieldOut, hco, Bool.false_eq_true, if_false]
        simp only [hy]
        rw [Sem.bind_eq_wrap', Sem.bind_eq_wrap', Sem.wrap_wrap, Sem.wrap_wrap]
        refine seg_wrap (wpAny_mono h (fun y s4 h => ?_) fun _ _ e => e.elim)
        obtain ⟨hC, hgo⟩ := h
        obtain ⟨n', rfl⟩ : ∃ n', n = n' + 1 := ⟨n - 1, by omega⟩
        refine seg_at (seg_yield rfl rfl rfl ⟨hC, fun gy s'' hs => ?_⟩)
        obtain ⟨m', hm, hW'⟩ := hgo gy
        exact seg_again rfl (ih m' hm n' s'' s'' (by omega) (hW' s'' hs))
/-- from its beginning -/
theorem seg_start {elt tg iter : Expr} {ifs : List Expr} {scope : Scope} {pos : Pos} {I : Addr} {cenv : Env} {Sr : Value → Shared → Shared → Prop} {C : Shared → Value → Shared → Prop} {Go : Value → Prop} {Dn : Shared → Shared → Prop} {n : Nat} {s₀ s : Shared}
    (self : ∀ (B : Around) (Q : Value → Shared → Prop) (E : Value → Shared → Prop), Q (.ref I) s → wpAny (model prog w) B (pyIter (.ref I)) Q E s)
    (loop : Seg (model prog w) A (Rx Dn) (Yx Sr C Go) n s₀ (.compLoop (.GeneratorExp elt [⟨tg, iter, ifs, 0⟩] scope pos) 0 (.ref I) .none cenv)
      ((model prog w).den (.compLoop (.GeneratorExp elt [⟨tg, iter, ifs, 0⟩] scope pos) 0 (.ref I) .none cenv)) [] s) :
    Seg (model prog w) A (Rx Dn) (Yx Sr C Go) n s₀ (.compStart (.GeneratorExp elt [⟨tg, iter, ifs, 0⟩] scope pos) 0 (.ref I) .none cenv)
      ((model prog w).den (.compStart (.GeneratorExp elt [⟨tg, iter, ifs, 0⟩] scope pos) 0 (.ref I) .none cenv)) [] s := by
  show Seg _ A _ _ _ s₀ _ ((compStart (.GeneratorExp elt [⟨tg, iter, ifs, 0⟩] scope pos) 0 (.ref I) .none cenv).onRaise (leaving cenv)) [] s
  unfold compStart
  rw [Sem.onRaise_eq_wrap]
  show Seg _ A _ _ _ s₀ _ ((ask >>= _).wrap _ _ _ _) [] s
  refine seg_bind_wrap (wpAny_askSetting ?_)
  split
  · exact seg_again rfl loop
  · refine seg_bind_wrap (wpAny_rule ?_)
    show Seg _ A _ _ _ s₀ _ ((standAt iter.pos >>= _).wrap _ _ _ _) [] s
    exact seg_bind_wrap (wpAny_standAt (seg_bind_wrap (self _ _ _ (seg_again rfl loop))))
end
end Gx
end PySem
/-! ### the two together: all(g), any(g), g a generator expression not yet begun -/
namespace PySem
namespace Gx
open PySem.W PySem.Calls PyProof.Rows L2 GenW
/-- the heap is extended; the table of generators stays bare -/
structure Ex (s s' : Shared) : Prop where
  os : s'.os = s.os
  bare : AllBare s'.gens
  heap : ∀ b o, s.heap.get? b = some o → s'.heap.get? b = some o
/-- the end of the generator -/
def Rg (Dn : Shared → Shared → Prop) : GenEnd := fun _ s₀ r s₁ => ((r = .ok (.ret .none) ∨ r = .ok .next) ∧ Dn s₀ s₁) ∨ ∃ e, r = .error e ∧ False
theorem seg_rg {M : Model} {A : Around} {Sr : Value → Shared → Shared → Prop} {C : Shared → Value → Shared → Prop} {Go : Value → Prop} {Dn : Shared → Shared → Prop} {n : Nat} {s₀ : Shared} {c : Code} {t : Sem PySem.Fin} {fs : List Frame} {s : Shared} (h : Seg M A (Rx Dn) (Yx Sr C Go) n s₀ c t fs s) : Seg M A (Rg Dn) (Yx Sr C Go) n s₀ c t fs s :=
  seg_imp (fun _ s₀ r s h => .inl ⟨.inr h.1, h.2⟩) (fun _ _ v s kap kap' hk h => ⟨h.1, fun gv s' hs => hk _ _ (h.2 gv s' hs)⟩) n h
section
variable {prog : Program} {w : World} {A : Around} {E : Value → Shared → Prop} {a : Addr} {g : Nat}
/-- a value that is handed out: its generator stands; what then is, if the consumer stops at it -/
def Cx (a : Addr) (g : Nat) (stop : Bool) (Q : Shared → Prop) (v : Value) (s : Shared) : Prop :=
  ∃ b, v = .bool b ∧ s.heap.IsGen a g ∧ s.heap.NoLimit ∧ AllBare s.gens ∧ (b = stop → ∀ s', Sl s s' → Q s')
def Dx (Q : Shared → Prop) (s : Shared) : Prop := AllBare s.gens ∧ ∀ s', Ex s s' → Q s'
/-- the generator sleeps, m items at most are left -/
def Wx (prog : Program) (w : World) (A : Around) (a : Addr) (g : Nat) (stop : Bool) (C : Value → Shared → Prop) (Dn : Shared → Prop) (m : Nat) (s : Shared) : Prop :=
  s.heap.IsGen a g ∧ s.heap.NoLimit ∧ AllBare s.gens ∧ ∃ gs, s.gens[g]? = some gs ∧ gs.Goes (model prog w) A (Rg fun _ => Dn) (Yx (fun _ => Sl) (fun _ => C) fun v => v = .bool (!stop)) m (.send .none) (s.setGen g .running)
theorem next_x {stop : Bool} {Q1 Q2 : Shared → Prop} {R : Option Value → Shared → Prop} {m : Nat} {s : Shared} (hh : A.handled = none) (hd : A.depth < recursionLimit)
    (hW : Wx prog w A.in1 a g stop (Cx a g stop Q1) (Dx Q2) m s)
    (hnone : ∀ s', Q2 s' → R none s')
    (hstop : ∀ s', Q1 s' → R (some (.bool stop)) s')
    (hgo : ∀ s' m', m' < m → Wx prog w A.in1 a g stop (Cx a g stop Q1) (Dx Q2) m' s' → R (some (.bool (!stop))) s') :
    wpAny (model prog w) A (pyNext (.ref a)) R E s := by
  obtain ⟨hg, hl, hb, gs, hgs, hgoes⟩ := hW
  have hgl : g < s.gens.size := (Array.getElem?_eq_some_iff.mp hgs).1
  refine wpAny_gsz (n := g + 1) hgl (next_genG (F := fun _ _ s₁ => Dx Q2 s₁) (Er := fun _ _ => False) hh hl hd hg hgs hgoes (fun v s₁ gs' hbare hv => ?_) (fun s₁ hp h' hk => ?_) fun e s₁ he => he.elim)
  · intro hsz
    obtain ⟨⟨b, rfl, hg1, hl1, hb1, hs1⟩, hk⟩ := hv
    have hsz1 : g < s₁.gens.size := by
      have q : (s₁.setGen g gs').gens.size = s₁.gens.size := setGen_size _ _ _
      have hsz' : g + 1 ≤ (s₁.setGen g gs').gens.size := hsz
      omega
    by_cases e : b = stop
    · subst e
      exact hstop _ (hs1 rfl _ ⟨rfl, allBare_setGen hb1 hbare, rfl⟩)
    · have e2 : b = !stop := by cases b <;> cases stop <;> first | rfl | exact absurd rfl e
      subst e2
      cases m with
      | zero => exact (hk rfl s₁ ⟨rfl, hb1, rfl⟩).elim
      | succ k => exact hgo _ k (Nat.lt_succ_self k) ⟨hg1, hl1, allBare_setGen hb1 hbare, gs', setGen_at hsz1, hk rfl _ ⟨rfl, allBare_setGen (s := s₁.setGen g gs') (allBare_setGen hb1 hbare) rfl, rfl⟩⟩
  · intro hsz
    exact hnone _ (hp.2 _ ⟨rfl, allBare_setGen hp.1 rfl, hk⟩)
theorem call_all_gen {Q : Value → Shared → Prop} {m : Nat} {s : Shared} (hh : A.handled = none) (hd : A.depth + 1 < recursionLimit)
    (hW : Wx prog w A.in1.in1 a g false (Cx a g false fun s' => Q (.bool false) s') (Dx fun s' => Q (.bool true) s') m s) :
    wpAny (model prog w) A (call (.builtin "all") [.ref a]) Q E s := by
  refine call_function_tree F.kind_all F.plain_all F.entry_all (F.args_all1 _) ?_
  unfold Builtin.«all»
  refine wpAny_bind (m := oneArg "all" _) (wpAny_pure ?_)
  refine wpAny_bind (wpAny_pyIter_gen hW.1 ?_)
  refine wpAny_pure ⟨plainId_quiet F.plain_all_loop _, ?_⟩
  refine all_loop (A := A) (fun m s => Wx prog w A.in1.in1 a g false (Cx a g false fun s' => Q (.bool false) s') (Dx fun s' => Q (.bool true) s') m s) (fun m s h => ?_) m s hW
  exact next_x (A := A.in1) hh (by show A.depth < _; omega) h (fun s' q => q) (fun s' q => ⟨false, rfl, q⟩) fun s' m' hm h' => ⟨true, rfl, m', hm, h'⟩
theorem call_any_gen {Q : Value → Shared → Prop} {m : Nat} {s : Shared} (hh : A.handled = none) (hd : A.depth + 1 < recursionLimit)
    (hW : Wx prog w A.in1.in1 a g true (Cx a g true fun s' => Q (.bool true) s') (Dx fun s' => Q (.bool false) s') m s) :
    wpAny (model prog w) A (call (.builtin "any") [.ref a]) Q E s := by
  refine call_function_tree F.kind_any F.plain_any F.entry_any (F.args_any1 _) ?_
  unfold Builtin.«any»
  refine wpAny_bind (m := oneArg "any" _) (wpAny_pure ?_)
  refine wpAny_bind (wpAny_pyIter_gen hW.1 ?_)
  refine wpAny_pure ⟨plainId_quiet F.plain_any_loop _, ?_⟩
  refine any_loop (A := A) (fun m s => Wx prog w A.in1.in1 a g true (Cx a g true fun s' => Q (.bool true) s') (Dx fun s' => Q (.bool false) s') m s) (fun m s h => ?_) m s hW
  exact next_x (A := A.in1) hh (by show A.depth < _; omega) h (fun s' q => q) (fun s' q => ⟨true, rfl, q⟩) fun s' m' hm h' => ⟨false, rfl, m', hm, h'⟩
end
end Gx
end PySem
/-! ### a generator expression is made -/
namespace PySem
namespace Gx
open PySem.W PySem.Calls PyProof.Rows L2 GenW
section
variable {X : L2.Cx} {pins : List (Addr × Obj)} {σ : L2.St} {H : Hp} {s : Shared}
theorem gen_make {c P : Addr} {elt tg iter : Expr} {ifs : List Expr} {x : Str} {gpos : Pos} {scope : Scope} {wi : TI} {k : Nat} {Q' : Value → Shared → Prop} {R : It → Hp → Prop}
    (hr : Room k X.A) (TB : GxR.TabB X.base X.mg c P) (hcode : X.env.code = .ref c) (S : GxR.GenS X.env scope x) (hi : PI X tg iter wi) (hs : ∀ v, genFold iter X.env v = pure v)
    (I : Inv X pins σ H s) (h : wi σ H fun J H1 => GxR.TabG H1 P ∧ R J H1)
    (hQ : ∀ (it : Addr) (fp : List Addr) (tn : Nat → Heap → Prop) (J : It) (H1 H2 : Hp) (code : Value) (C a : Addr) (g : Nat) (s4 s5 : Shared), R J H1 → GxR.Tabbed P H1 H2 → Inv X pins σ H2 s4 → s4.heap.objs.size = C → (∀ b o, s4.heap.get? b = some o → s5.heap.get? b = some o) → s5.os = s4.os → tn 0 s4.heap → Inv X pins σ H2 s5 → Turn X.prog X.w X.K tg J fp it tn → tn 0 s5.heap → (∀ b ∈ fp, FpOk X pins H2 b) →
      s5.heap.Ns C (fun y => if y = ".0" then some (.ref it) else none) → FpOk X pins H2 C → C ∉ fp → s5.heap.IsGen a g → FpOk X pins H2 a → a ∉ fp → a ≠ C →
      s5.gens[g]? = some (.fresh (.compStart (.GeneratorExp elt [⟨tg, iter, ifs, 0⟩] scope gpos) 0 (.ref it) .none (genEnv scope (cloFrom X.env.cells scope.names []) C code builtinsNs X.env))) → Q' (.ref a) s5) :
    wpAny (model X.prog X.w) X.A (eval (.GeneratorExp elt [⟨tg, iter, ifs, 0⟩] scope gpos) X.env) Q' X.xe s := by
  refine wpAny_GeneratorExp_make S.co (closure_ok S.free) S.cell S.dot S.kind (by have := hr.dp; omega) ?_ hs
  refine thn (hi.run pins s σ H _ I h) fun xv s1 h1 => thn h1 fun itv s2 h2 => ?_
  obtain ⟨it, fp, tn, J, H1, rfl, I2, T, st2, f2, ⟨ps, hP, ht⟩, q⟩ := h2
  have hPs : s2.heap.get? P = some { cls := .none, data := .fields ps } := I2.hok P _ hP
  have hPlt : P < s2.heap.objs.size := Heap.lt_size hPs
  have cd : PySem.W.CodeHd s2.heap c P := TB.code.keeps fun b u e => I2.bk b u e
  have cont : ∀ (code : Value) (h3 : Heap) (tk : Nat) (ps' : Array Value), Heap.ExtBut P s2.heap h3 → s2.heap.objs.size ≤ h3.objs.size → h3.get? P = some { cls := .none, data := .fields ps' } → (∃ more, ps' = ps ++ more) → TriplesOk ps'.toList →
      wpAny (model X.prog X.w) X.A (builtinsFor X.env.globals X.env.builtins) (fun bi s₄ =>
        ∀ h', h'.Ns s₄.heap.objs.size (fun y => if y = ".0" then some (.ref it) else none) → Heap.SameBut s₄.heap.objs.size (s₄.heap.push { cls := .type "frame", data := .dict #[] }) h' →
          Q' (.ref h'.objs.size) { s₄ with
            gens := s₄.gens.push (.fresh (.compStart (.GeneratorExp elt [⟨tg, iter, ifs, 0⟩] scope gpos) 0 (.ref it) .none (genEnv scope (cloFrom X.env.cells scope.names []) s₄.heap.objs.size code bi X.env))),
            toks := s₄.toks + 1 + 1 + 1,
            heap := h'.push { cls := .type "generator", data := .fields #[.int s₄.gens.size 0, .str "<genexpr>" (s₄.toks + 1), .str (X.env.qual ++ "<genexpr>") (s₄.toks + 1 + 1)] } }) X.xe { s2 with heap := h3, toks := tk } := by
    intro code h3 tk ps' hx hsz hP3 hmore ht3
    obtain ⟨bm, ob, e1, e2, e3, e4, e5, e6, e7, e8⟩ := TB.bm
    refine wpAny_builtinsFor (m := X.mg) (by rw [I2.ok.glob]; exact (I2.mod.glob.keeps I2.bk).extBut hx TB.gP) e1 e2 (hx _ _ e4 (I2.bk _ _ e5)) e6 e7 e8 ?_
    intro h' hn' hs'
    have hsz' : h'.objs.size = h3.objs.size + 1 := by rw [hs'.1, Heap.size_push]
    have keep' : ∀ b o, h3.get? b = some o → h'.get? b = some o := fun b o e => hs'.extBut b o (Nat.ne_of_lt (Heap.lt_size e)) (Heap.get?_push_of_some _ e)
    have keep5 : ∀ b o, b ≠ P → s2.heap.get? b = some o → (h'.push { cls := .type "generator", data := .fields #[.int s2.gens.size 0, .str "<genexpr>" (tk + 1), .str (X.env.qual ++ "<genexpr>") (tk + 1 + 1)] }).get? b = some o :=
      fun b o hb e => Heap.get?_push_of_some _ (keep' b o (hx b o hb e))
    obtain ⟨more, em⟩ := hmore
    have nfP : ∀ b ∈ fp, b ≠ P := fun b hb e => by
      have := (f2 b hb).1
      rw [e, hP] at this
      cases this
    have fok : ∀ b, FpOk X pins H1 b → FpOk X pins (upd H1 P (.tbl (ps ++ more))) b := fun b hb => by
      have nb : b ≠ P := fun e => by
        have := hb.1
        rw [e, hP] at this
        cases this
      exact ⟨by rw [upd_ne nb]; exact hb.1, hb.2⟩
    have hCf : (h3.objs.size : Nat) ∉ fp := fun hb => by
      obtain ⟨o, ho, _⟩ := T.obj _ _ st2 _ hb
      exact absurd (Nat.lt_of_lt_of_le (Heap.lt_size ho) hsz) (Nat.lt_irrefl _)
    have hge : s2.heap.objs.size ≤ h'.objs.size := by rw [hsz']; exact Nat.le_succ_of_le hsz
    have haf : (h'.objs.size : Nat) ∉ fp := fun hb => by
      obtain ⟨o, ho, _⟩ := T.obj _ _ st2 _ hb
      exact absurd (Nat.lt_of_lt_of_le (Heap.lt_size ho) hge) (Nat.lt_irrefl _)
    have J5 := GxR.inv_tab (more := more) (h' := h'.push { cls := .type "generator", data := .fields #[.int s2.gens.size 0, .str "<genexpr>" (tk + 1), .str (X.env.qual ++ "<genexpr>") (tk + 1 + 1)] })
      (g' := s2.gens.push (.fresh (.compStart (.GeneratorExp elt [⟨tg, iter, ifs, 0⟩] scope gpos) 0 (.ref it) .none (genEnv scope (cloFrom X.env.cells scope.names []) h3.objs.size code builtinsNs X.env)))) (d' := s2.drawn) (t' := tk + 1 + 1 + 1)
      I2 hP keep5 (by rw [← em]; exact Heap.get?_push_of_some _ (keep' P _ hP3)) (I2.bare.push rfl)
    have J4 := GxR.inv_tab (more := more) (h' := h3) (g' := s2.gens) (d' := s2.drawn) (t' := tk) I2 hP (fun b o hb e => hx b o hb e) (by rw [← em]; exact hP3) I2.bare
    refine hQ it fp tn J H1 (upd H1 P (.tbl (ps ++ more))) code h3.objs.size h'.objs.size s2.gens.size _ _ q ⟨⟨ps ++ more, upd_same, by rw [← em]; exact ht3⟩, fun b hb => upd_ne hb⟩ J4 rfl (fun b o e => Heap.get?_push_of_some _ (keep' b o e)) rfl (T.keep _ _ _ st2 fun b hb o e => hx b o (nfP b hb) e) J5 T
      (T.keep _ _ _ st2 fun b hb o e => keep5 b o (nfP b hb) e) (fun b hb => fok b (f2 b hb)) (hn'.push _) (fok _ (I2.fpOk hsz (I2.hok.fresh hsz))) hCf ⟨_, _, _, Heap.get?_push_size _ rfl, rfl, rfl, rfl⟩
      (fok _ (I2.fpOk hge (I2.hok.fresh hge))) haf (by rw [hsz']; exact Nat.succ_ne_self _) (Array.getElem?_push_size ..)
  refine ⟨I2.nolimit, ?_⟩
  cases hf : codeAmong gpos ps.toList with
  | none =>
    refine wpAny_genexprCodeX hcode (cd.code hPs ht) (cd.tab hPs) hf fun c' h' tk hx hge hlt hco' _ htab' _ => ?_
    obtain ⟨o1, vs, f1, tf, fl, tg', inF, tx, tt, op, _, _, _, _, _, _, _, _, _, htr, _⟩ := hco'
    exact cont _ h' tk _ hx (Nat.le_trans hge (Nat.le_of_lt hlt)) htab'.2 ⟨_, rfl⟩ htr
  | some cv =>
    refine wpAny_genexprCode_hit hcode (cd.code hPs ht) hf ?_
    exact cont cv s2.heap s2.toks ps (Heap.ExtBut.refl _ _) (Nat.le_refl _) hPs ⟨#[], by simp⟩ ht
end
end Gx
end PySem
/-! ### the frame of the expression, as a context -/
namespace PySem
namespace Gx
open PySem.W PySem.Calls PyProof.Rows L2 GenW
abbrev gcx (X : L2.Cx) (B : Around) (s : Shared) (H : Hp) (env : Env) (fp : List Addr) (pn : List (Addr × Obj)) : L2.Cx :=
  { X with A := B, s_0 := s, H_0 := H, env := env, outer := X.stack, stack := env :: X.stack, ex := fp, fn := fun _ => false, pn := pn, xe := fun _ _ => False }
section
variable {X : L2.Cx} {pins : List (Addr × Obj)} {σ : L2.St} {H : Hp} {s4 s5 : Shared}
/-- s4: ahead of the frame; s5: the generator stands -/
theorem gx_start {B : Around} {scope : Scope} {own : List (Str × Nat)} {fp : List Addr} {pn : List (Addr × Obj)} {code it : Value} (I4 : Inv X pins σ H s4) (I5 : Inv X pins σ H s5) (ok : BlkOk X.N X.env.scope scope own) (hN : X.N.Nodup)
    (hcell : ∀ y ∈ scope.names, y.2 ≠ .cell) (hX : X.calm = true) (hB : B.handled = none) (hBf : B.frames = some (genEnv scope (cloFrom X.env.cells scope.names []) s4.heap.objs.size code builtinsNs X.env :: X.stack))
    (hfp : ∀ b ∈ fp, FpOk X pins H b ∧ b ≠ s4.heap.objs.size) (keep : ∀ b o, s4.heap.get? b = some o → s5.heap.get? b = some o) (os : s5.os = s4.os)
    (hns : s5.heap.Ns s4.heap.objs.size (fun y => if y = ".0" then some it else none)) (hpn : ∀ p ∈ pn, s5.heap.get? p.1 = some p.2 ∧ H p.1 = none ∧ p.1 ≠ s4.heap.objs.size ∧ p.1 ∉ frs X.stack ∧ ∀ v, p.2.data ≠ .cell v) :
    Inv (gcx X B s4 H (genEnv scope (cloFrom X.env.cells scope.names []) s4.heap.objs.size code builtinsNs X.env) fp pn) [] (wipe σ (own.map (·.2))) H s5 := by
  have hfree : ∀ y ∈ scope.names, y.2 = .free → ∃ c, X.env.cells.lookup y.1 = some c := fun y hy e => by
    rcases ok.free y hy e with k | k
    · exact I4.ok.has _ (.inl k)
    · exact I4.ok.has _ (.inr k)
  have cm : ∀ {y c}, (y, c) ∈ cloFrom X.env.cells scope.names [] → X.env.cells.lookup y = some c ∧ c < s4.heap.objs.size := fun {y c} hm => by
    rcases cloFrom_mem hm with hm | ⟨h1, rfl⟩
    · cases hm
    · obtain ⟨c, hc⟩ := hfree _ h1 rfl
      rw [hc]
      obtain ⟨w, z⟩ := I4.cell _ _ hc
      exact ⟨rfl, z.lt⟩
  have mem : ∀ {y c}, (cloFrom X.env.cells scope.names []).lookup y = some c → X.env.cells.lookup y = some c ∧ c < s4.heap.objs.size := fun {y c} e => cm (PySem.mem_of_lookup e)
  have look : ∀ {y}, scope.names.lookup y = some .free → ∃ c, (cloFrom X.env.cells scope.names []).lookup y = some c ∧ X.env.cells.lookup y = some c := fun {y} hl => by
    have hy : (y, NameKind.free) ∈ scope.names := PySem.mem_of_lookup hl
    obtain ⟨c', e'⟩ := mem_lookup (cloFrom_has (cells := X.env.cells) (acc := []) hy)
    exact ⟨c', e', (mem e').1⟩
  have okB : (gcx X B s4 H (genEnv scope (cloFrom X.env.cells scope.names []) s4.heap.objs.size code builtinsNs X.env) fp pn).Ok := by
    refine ⟨I4.ok.mod, ok.kind, I4.ok.glob, rfl, Nat.le_refl _, fun y z c e1 e2 => I4.ok.inj y z c (mem e1).1 (mem e2).1, fun y hy => ?_, (fun y c z e => by cases z), fun _ => hB, hBf, .inr ⟨rfl, rfl⟩,
      fun b hb => ⟨(hfp b hb).2, fun y c e z => (hfp b hb).1.2.2.2.2.1 y c (mem e).1 z⟩, I4.bs, Nat.le_trans I4.ok.bsz I4.sz, fun b o e hb => ?_, fun b hb z => ?_, I4.stack, I4.stkFree⟩
    · rcases hy with hy | hy
      · exact absurd rfl (hcell _ (PySem.mem_of_lookup hy))
      · obtain ⟨c, h1, _⟩ := look hy
        exact ⟨c, h1⟩
    · rcases (hfp b hb).1.2.2.2.1 with z | z
      · exact I4.ok.noex b o e z
      · exact absurd (Nat.lt_of_lt_of_le (Heap.lt_size e) (Nat.le_trans I4.ok.bsz z)) (Nat.lt_irrefl _)
    · rcases List.mem_cons.mp (I4.stkSub b z) with z | z
      · exact (hfp b hb).1.2.1 z
      · exact (hfp b hb).1.2.2.1 z
  refine ⟨okB, os, I5.bare, Un.kept keep, ⟨_, hns, fun i y av e1 e2 e3 => ?_⟩, fun y c e => ?_, I4.hok.fresh (Nat.le_refl _), fun y c e => I4.freeC y c (mem e).1, fun p hp => ?_, I5.hok, by rw [wipe_length]; exact I4.len⟩
  · obtain ⟨e2, hne⟩ := wipe_some e2
    have hfr : scope.names.lookup y = some .free := by
      have no : ∀ k, scope.names.lookup y = some k → ¬ (k = .local ∨ k = .cell) := fun k hk hh => by
        rcases ok.own _ (PySem.mem_of_lookup hk) hh with e' | e'
        · obtain ⟨p, hp, hpy⟩ := List.mem_map.mp e'
          have e3 := ok.ix p hp
          have : p.1 = y := hpy
          rw [this] at e3
          exact hne (List.mem_map.mpr ⟨p, hp, nodup_ix hN e3 e1⟩)
        · exact e' (List.mem_of_getElem? e1)
      rcases e3 with e3 | e3 | e3
      · exact absurd (.inl rfl) (no _ e3)
      · exact absurd (.inr rfl) (no _ e3)
      · exact e3
    obtain ⟨m, hn, hl⟩ := I4.loc
    have hvis : Vis X.env.scope y := (ok.free _ (PySem.mem_of_lookup hfr) rfl).elim (fun k => .inr (.inl k)) (fun k => .inr (.inr k))
    obtain ⟨w, r, q⟩ := hl i y av e1 e2 hvis
    refine ⟨w, r, .inr ⟨.inr hfr, ?_⟩⟩
    obtain ⟨c, h1, h2⟩ := look hfr
    rcases q with ⟨k, _⟩ | ⟨_, c', e', z⟩
    · have k : X.env.scope.names.lookup y = some .local := k
      rcases ok.free _ (PySem.mem_of_lookup hfr) rfl with k' | k' <;> rw [show X.env.scope.names.lookup y = _ from k'] at k <;> cases k
    · rw [h2] at e'; cases e'
      exact ⟨c, h1, z.keeps keep⟩
  · obtain ⟨w, z⟩ := I4.cell y c (mem e).1
    exact ⟨w, z.keeps keep⟩
  · have hp : p ∈ pn := by simpa using hp
    exact hpn p hp
/-- the frame's around: the one of the caller, that frame on it -/
theorem gx_frames {A : Around} {elt iter tg : Expr} {ifs : List Expr} {scope : Scope} {pos : Pos} {it : Value} {env : Env} {l : List Env} (hf : env.frame = some env.locals) (h : A.frames = some l) :
    (A.over (.compLoop (.GeneratorExp elt [⟨tg, iter, ifs, 0⟩] scope pos) 0 it .none env) []).frames = some (env :: l) := by
  obtain ⟨hd, d, fr, gs, u⟩ := A
  have h : fr = some l := h
  subst h
  simp [Around.over, envsOf, pushEnvs, Code.envs, Code.env?, Code.isFrame]
end
end Gx
end PySem
/-! ### the rule -/
namespace PySem
namespace Gx
open PySem.W PySem.Calls PyProof.Rows L2 GenW
/-- all(e for t in it if c) (stop = false), any(..) (stop = true): vs: the expression's own names' places, P: the table of the def's code -/
def tGen (stop : Bool) (wi : TI) (g : TG) (tt : TT) (te : TE) (vs : List Nat) (P : Addr) : TE := fun σ H Q => wi σ H fun J H1 => GxR.TabG H1 P ∧ ∀ H2, GxR.Tabbed P H1 H2 → ∃ W : Nat → Nat → Hp → Prop, (∃ m, W 0 m H2) ∧ ∀ i m H, W i m H →
  (J.stop i H ∧ Q (.bl (!stop)) H) ∨ (J.go i H ∧ ∃ Nx : Hp → Prop, (∀ H', Nx H' → ∃ m', m' < m ∧ W (i + 1) m' H') ∧ ∀ x H', J.yld i H x H' → g x (wipe σ vs) H' fun σ2 H2 => wipe σ2 vs = wipe σ vs ∧ tt σ2 H2 fun b H3 =>
    if b = true then te σ2 H3 fun y H4 => ∃ c, y = .bl c ∧ if c = stop then Q (.bl stop) H4 else Nx H4 else Nx H3)
section
variable {X : L2.Cx} {pins : List (Addr × Obj)} {σ : L2.St} {H : Hp} {s : Shared}
theorem inv_sl {Y : L2.Cx} {pins : List (Addr × Obj)} {σ : L2.St} {H : Hp} {s s' : Shared} (I : Inv Y pins σ H s) (h : Sl s s') : Inv Y pins σ H s' :=
  I.call' (ch := []) h.os (Un.kept fun b o e => by rw [h.heap]; exact e) (I.hok.kept fun b o e => by rw [h.heap]; exact e) h.bare fun b hb => absurd hb (by simp)
/-- back in the caller's frame -/
theorem gx_back {B : Around} {s4 s1 s' : Shared} {H2 H' : Hp} {env : Env} {fp : List Addr} {pn ps : List (Addr × Obj)} {σ' : L2.St} (I4 : Inv X pins σ H2 s4) (hfp : ∀ b ∈ fp, FpOk X pins H2 b) (Ig : Inv (gcx X B s4 H2 env fp pn) ps σ' H' s1) (e : Ex s1 s') : Inv X pins σ H' s' :=
  I4.call' (ch := fp) (e.os.trans Ig.os) (Ig.base.trans (Un.kept e.heap)) (Ig.hok.kept e.heap) e.bare fun b hb => ⟨(hfp b hb).2.2.2.1, (hfp b hb).2.1, (hfp b hb).2.2.2.2.1, (hfp b hb).2.2.2.2.2⟩
theorem pe_gen (stop : Bool) {c P : Addr} {elt tg iter : Expr} {ifs : List Expr} {x : Str} {f : String} {p pos gpos : Pos} {scope : Scope} {own : List (Str × Nat)} {wi : TI} {g : TG} {tt : TT} {te : TE} {k : Nat} (hf : f = if stop = true then "any" else "all")
    (hr : Room (k + 3) X.A) (hc : X.calm = true) (hN : X.N.Nodup) (hg : Gl X f) (hm : X.mg f = none) (TB : GxR.TabB X.base X.mg c P) (hcode : X.env.code = .ref c) (S : GxR.GenS X.env scope x) (ok : BlkOk X.N X.env.scope scope own)
    (hi : PI X tg iter wi)
    (ht : ∀ (B : Around) (s : Shared) (H : Hp) (C : Addr) (code : Value) (fp : List Addr) (pn : List (Addr × Obj)), Room k B → PG (gcx X B s H (genEnv scope (cloFrom X.env.cells scope.names []) C code builtinsNs X.env) fp pn) tg g)
    (hts : ∀ (B : Around) (s : Shared) (H : Hp) (C : Addr) (code : Value) (fp : List Addr) (pn : List (Addr × Obj)), Room k B → PTs (gcx X B s H (genEnv scope (cloFrom X.env.cells scope.names []) C code builtinsNs X.env) fp pn) ifs tt)
    (hel : ∀ (B : Around) (s : Shared) (H : Hp) (C : Addr) (code : Value) (fp : List Addr) (pn : List (Addr × Obj)), Room k B → PE (gcx X B s H (genEnv scope (cloFrom X.env.cells scope.names []) C code builtinsNs X.env) fp pn) elt te)
    (hs : ∀ v, genFold iter X.env v = pure v)
    (he : starEach [.GeneratorExp elt [⟨tg, iter, ifs, 0⟩] scope gpos] X.env = (false, eval (.GeneratorExp elt [⟨tg, iter, ifs, 0⟩] scope gpos) X.env) :: starEach [] X.env := by rfl) :
    PE X (.Call (.Name f p) [.GeneratorExp elt [⟨tg, iter, ifs, 0⟩] scope gpos] [] pos) (tGen stop wi g tt te (own.map (·.2)) P) := by
  refine ⟨fun pins s σ H Q I h => ?_⟩
  have hstk := I.ok.frames
  have fin : ∀ (a : Addr) (g : Nat) (m : Nat) (s5 : Shared), Wx X.prog X.w X.A.in1.in1 a g stop (Cx a g stop fun s' => ∃ v H', Inv X pins σ H' s' ∧ RelV v (.bool stop) ∧ Q v H') (Dx fun s' => ∃ v H', Inv X pins σ H' s' ∧ RelV v (.bool !stop) ∧ Q v H') m s5 →
      wpAny (model X.prog X.w) X.A (call (.builtin f) [.ref a]) (fun u s' => ∃ v H', Inv X pins σ H' s' ∧ RelV v u ∧ Q v H') X.xe s5 := by
    intro a g m s5 hW
    subst hf
    cases stop with
    | false => exact call_all_gen (Q := fun u s' => ∃ v H', Inv X pins σ H' s' ∧ RelV v u ∧ Q v H') hr.hd (by have := hr.dp; omega) hW
    | true => exact call_any_gen (Q := fun u s' => ∃ v H', Inv X pins σ H' s' ∧ RelV v u ∧ Q v H') hr.hd (by have := hr.dp; omega) hW
  have hb : bootBuiltins f = some (.builtin f) := by subst hf; cases stop <;> decide +kernel
  refine wpAny_Call_Name_kw (ld_blt I hg hm hb ?_ (by subst hf; cases stop <;> decide) (by subst hf; cases stop <;> decide))
  refine PyProof.Rows.callWith_builtin1 ?_ he (by rfl)
  rw [he]
  show wpAny _ _ (spliced ((false, eval (.GeneratorExp elt [⟨tg, iter, ifs, 0⟩] scope gpos) X.env) :: backTo pos (starEach [] X.env))) _ _ s
  refine Calls.spliced_cons (gen_make hr TB hcode S hi hs I h fun it fp tn J H1 H2 code C a gi s4 s5 q tab I4 hC keep os st4 I5 T st5 f2 hns fC hCf hgen fa haf haC hgs => ?_)
  refine Calls.spliced_nil ?_
  obtain ⟨W, ⟨m0, w0⟩, turn⟩ := q H2 tab
  subst hC
  have lt4 : ∀ b ∈ fp, b < s4.heap.objs.size := fun b hb => by
    obtain ⟨o, ho, _⟩ := T.obj _ _ st4 b hb
    exact Heap.lt_size ho
  obtain ⟨ga, gnm, gqn, gho, gr⟩ := id hgen
  obtain ⟨gcl, gdt, gsl⟩ := gr
  have bh : ∀ {c : Code}, (X.A.in1.in1.over c []).handled = none := fun {c} => hr.hd
  have rb : Room k (X.A.in1.in1.over (.compLoop (.GeneratorExp elt [⟨tg, iter, ifs, 0⟩] scope gpos) 0 (.ref it) .none (genEnv scope (cloFrom X.env.cells scope.names []) s4.heap.objs.size code builtinsNs X.env)) []) := ⟨hr.hd, by
    have := hr.dp
    show X.A.depth + 1 + 3 * k + 5 < recursionLimit
    omega, by
    have := hr.un
    show X.A.units + 5 + 16 * k + 200 < cLine
    omega⟩
  have I6 := gx_start (code := code) (it := .ref it) (own := own) (pn := [(a, ga)]) I4 I5 ok hN S.cell hc (B := X.A.in1.in1.over (.compLoop (.GeneratorExp elt [⟨tg, iter, ifs, 0⟩] scope gpos) 0 (.ref it) .none (genEnv scope (cloFrom X.env.cells scope.names []) s4.heap.objs.size code builtinsNs X.env)) [])
    hr.hd (gx_frames rfl hstk) (fun b hb => ⟨f2 b hb, Nat.ne_of_lt (lt4 b hb)⟩) keep os hns (fun p hp => by
      rw [List.mem_singleton.mp hp]
      refine ⟨gho, fa.1, haC, fun z => ?_, fun v z => ?_⟩
      · rcases List.mem_cons.mp (I4.stkSub a z) with z | z
        · exact fa.2.1 z
        · exact fa.2.2.1 z
      · rw [gdt] at z; cases z)
  refine fin a gi (m0 + 1) s5 ⟨hgen, I5.nolimit, I5.bare, _, hgs, rfl, seg_rg (seg_start (fun B Q E hq => T.self B 0 _ Q E st5 hq) (seg_loop rfl S.co
    (fun m _ s => ∃ i H', Inv (gcx X (X.A.in1.in1.over (.compLoop (.GeneratorExp elt [⟨tg, iter, ifs, 0⟩] scope gpos) 0 (.ref it) .none (genEnv scope (cloFrom X.env.cells scope.names []) s4.heap.objs.size code builtinsNs X.env)) []) s4 H2 (genEnv scope (cloFrom X.env.cells scope.names []) s4.heap.objs.size code builtinsNs X.env) fp [(a, ga)]) [] (wipe σ (own.map (·.2))) H' s ∧
      tn i s.heap ∧ (∀ b ∈ fp, H' b = none) ∧ W i m H') ?_ m0 (m0 + 1) _ _ (Nat.lt_succ_self _) ⟨0, H2, ?_, st5, fun b hb => (f2 b hb).1, w0⟩))⟩
  · generalize hBB : X.A.in1.in1.over (.compLoop (.GeneratorExp elt [⟨tg, iter, ifs, 0⟩] scope gpos) 0 (.ref it) .none (genEnv scope (cloFrom X.env.cells scope.names []) s4.heap.objs.size code builtinsNs X.env)) [] = B at rb ⊢
    have pg := ht B s4 H2 s4.heap.objs.size code fp [(a, ga)] rb
    have pt := hts B s4 H2 s4.heap.objs.size code fp [(a, ga)] rb
    have pe := hel B s4 H2 s4.heap.objs.size code fp [(a, ga)] rb
    have stat : ∀ {σ' : L2.St} {H' : Hp} {s' : Shared}, Inv (gcx X B s4 H2 (genEnv scope (cloFrom X.env.cells scope.names []) s4.heap.objs.size code builtinsNs X.env) fp [(a, ga)]) [] σ' H' s' → (∀ b ∈ fp, H' b = none) → ∀ b ∈ fp, FpOk (gcx X B s4 H2 (genEnv scope (cloFrom X.env.cells scope.names []) s4.heap.objs.size code builtinsNs X.env) fp [(a, ga)]) [] H' b := fun {σ' H' s'} I' hn b hb =>
      ⟨hn b hb, (I'.ok.exf b hb).1, I'.ok.exfs b hb, .inl hb, fun x c e => (I'.ok.exf b hb).2 x c e, fun p hp => by
        have hp : p ∈ [(a, ga)] ++ [] := hp
        rw [List.append_nil, List.mem_singleton] at hp
        rw [hp]
        exact fun z => haf (by rw [show a = b from z]; exact hb)⟩
    rintro m _ s5' ⟨i, H5, I5', st5', n5, w5⟩
    rcases turn i m H5 w5 with ⟨stop_, qq⟩ | ⟨go, Nx, hNx, step⟩
    · refine thnF (T.done (gcx X B s4 H2 (genEnv scope (cloFrom X.env.cells scope.names []) s4.heap.objs.size code builtinsNs X.env) fp [(a, ga)]) rfl rfl rfl hc i [] s5' _ H5 (fun _ _ => False) I5' (stat I5' n5) st5' stop_) fun r s6 ⟨hr6, I6⟩ => ?_
      subst hr6
      exact ⟨I6.bare, fun s' ex => ⟨.bl (!stop), H5, gx_back I4 f2 I6 ex, rfl, qq⟩⟩
    · refine thnF (T.item (gcx X B s4 H2 (genEnv scope (cloFrom X.env.cells scope.names []) s4.heap.objs.size code builtinsNs X.env) fp [(a, ga)]) rfl rfl rfl hc i [] s5' _ H5 (fun _ _ => False) I5' (stat I5' n5) st5' go) fun r s6 ⟨u, hr6, h6⟩ => ?_
      subst hr6
      refine thnF h6 fun _ s7 ⟨x, H7, I7, r7, y7, st7, n7⟩ => ?_
      have I7' := I7.pinned (stat I7 n7) (T.obj _ _ st7)
      refine thnF (pg.run _ s7 _ H7 x u _ I7' r7 (step x H7 y7)) fun _ s8 ⟨σ8, H8, I8, hw8, q8⟩ => ?_
      refine thnF (pt.run _ s8 σ8 H8 _ I8 q8) fun b s9 ⟨H9, I9, q9⟩ => ?_
      have fin2 : ∀ {s' : Shared} {H' : Hp}, Inv (gcx X B s4 H2 (genEnv scope (cloFrom X.env.cells scope.names []) s4.heap.objs.size code builtinsNs X.env) fp [(a, ga)]) ([] ++ pinsAt fp s7.heap) σ8 H' s' → Nx H' → ∃ m', m' < m ∧ ∃ i H', Inv (gcx X B s4 H2 (genEnv scope (cloFrom X.env.cells scope.names []) s4.heap.objs.size code builtinsNs X.env) fp [(a, ga)]) [] (wipe σ (own.map (·.2))) H' s' ∧ tn i s'.heap ∧ (∀ b ∈ fp, H' b = none) ∧ W i m' H' := fun {s' H'} I' nx => by
        obtain ⟨m', hm, w'⟩ := hNx H' nx
        have pin' : ∀ b ∈ fp, ∀ o, s7.heap.get? b = some o → s'.heap.get? b = some o ∧ H' b = none := fun b hb o e =>
          let z := I'.pin (b, o) (List.mem_append_right _ (List.mem_append_right _ (mem_pinsAt hb e)))
          ⟨z.1, z.2.1⟩
        have hl : (wipe σ (own.map (·.2))).length = σ8.length := by rw [← hw8, wipe_length]
        refine ⟨m', hm, i + 1, H', (I'.unpinned (pins := [])).weak hl (fun j v e => ?_), T.keep _ _ _ st7 fun b hb o e => (pin' b hb o e).1, fun b hb => ?_, w'⟩
        · rw [← hw8] at e
          exact (wipe_some e).1
        · obtain ⟨o, e, _⟩ := T.obj _ _ st7 b hb
          exact (pin' b hb o e).2
      cases b with
      | false =>
        simp only [Bool.false_eq_true, if_false] at q9 ⊢
        exact fin2 I9 q9
      | true =>
        simp only [if_true] at q9 ⊢
        refine thnF (pe.run _ s9 σ8 H9 _ I9 q9) fun z s10 ⟨yv, H10, I10, r10, b10, e10, q10⟩ => ?_
        subst e10
        have r10 : z = .bool b10 := r10
        refine ⟨⟨b10, r10, ⟨ga, gnm, gqn, (I10.pin (a, ga) (by simp)).1, gcl, gdt, gsl⟩, I10.nolimit, I10.bare, fun e s' hs' => ?_⟩, ?_⟩
        · rw [if_pos e] at q10
          exact ⟨.bl stop, H10, gx_back I4 f2 I10 ⟨hs'.os, hs'.bare, fun b o q => by rw [hs'.heap]; exact q⟩, rfl, q10⟩
        · intro gy
          rw [r10] at gy
          have gy : b10 = !stop := by injection gy
          rw [if_neg (by rw [gy]; cases stop <;> decide)] at q10
          obtain ⟨m', hm, i', H', J', rest⟩ := fin2 I10 q10
          exact ⟨m', hm, fun s' hs' => ⟨i', H', inv_sl J' hs', by rw [hs'.heap]; exact rest.1, rest.2⟩⟩
  · exact inv_sl I6 ⟨rfl, allBare_setGen I5.bare rfl, rfl⟩
end
end Gx
end PySem
/-! ### the form one uses: over any walk of the hand layer (walk_list, walk_tup, walk_range, ..) -/
namespace PySem
namespace Gx
open PySem.W PySem.Calls PyProof.Rows L2 GenW
/-- Pv: what is true ahead of each turn; an element's answer ends the walk or leads to the next turn -/
theorem gen_walk {J : It} {n : Nat} {G : Hp → Prop} {Y : Nat → Hp → V → Hp → Prop} {g : TG} {tt : TT} {te : TE} {vs : List Nat} {σ : L2.St} {Hs : Hp} {stop : Bool} {Q : VK} (w : Walk J n G Y) (Pv : Nat → Hp → Prop) (first : Pv 0 Hs) (stands : ∀ i H, Pv i H → G H)
    (turn : ∀ i x H H', i < n → Pv i H → Y i H x H' → g x (wipe σ vs) H' fun σ2 H2 => wipe σ2 vs = wipe σ vs ∧ tt σ2 H2 fun b H3 => if b = true then te σ2 H3 fun y H4 => ∃ c, y = .bl c ∧ if c = stop then Q (.bl stop) H4 else Pv (i + 1) H4 else Pv (i + 1) H3)
    (last : ∀ H, Pv n H → Q (.bl (!stop)) H) : ∃ W : Nat → Nat → Hp → Prop, (∃ m, W 0 m Hs) ∧ ∀ i m H, W i m H →
      (J.stop i H ∧ Q (.bl (!stop)) H) ∨ (J.go i H ∧ ∃ Nx : Hp → Prop, (∀ H', Nx H' → ∃ m', m' < m ∧ W (i + 1) m' H') ∧ ∀ x H', J.yld i H x H' → g x (wipe σ vs) H' fun σ2 H2 => wipe σ2 vs = wipe σ vs ∧ tt σ2 H2 fun b H3 =>
        if b = true then te σ2 H3 fun y H4 => ∃ c, y = .bl c ∧ if c = stop then Q (.bl stop) H4 else Nx H4 else Nx H3) := by
  refine ⟨fun i left H => i + left = n ∧ Pv i H, ⟨n, Nat.zero_add n, first⟩, fun i left H here => ?_⟩
  obtain ⟨count, now⟩ := here
  cases left with
  | zero =>
    obtain rfl : i = n := count
    exact .inl ⟨w.stops H (stands _ H now), last H now⟩
  | succ fewer =>
    have more : i < n := by omega
    exact .inr ⟨w.goes i H more (stands i H now), Pv (i + 1), fun H' then_ => ⟨fewer, Nat.lt_succ_self fewer, by omega, then_⟩, fun x H' given => turn i x H H' more now (w.yields i H x H' more (stands i H now) given)⟩
end Gx
end PySem
namespace PySem
end PySem
/-! ### the rule -/
namespace PySem
end PySem
namespace PySem
end PySem
namespace PySem
namespace Gx
open PySem PySem.W PySem.Calls PyProof.Rows L2 GenW
/-- the names of a generator expression, checked -/
theorem genS_by {env : Env} {scope : Scope} {x : Str} (h1 : scope.kind = .function) (h2 : scope.isCoroutine = false) (h3 : (scope.names.all fun y => match y.2 with | .cell => false | _ => true) = true) (h4 : scope.names.lookup (".0" : Str) = some NameKind.local)
    (h5 : scope.names.lookup x = some .local) (h6 : (scope.names.all fun y => match y.2 with | .free => (env.cells.lookup y.1).isSome | _ => true) = true) : GxR.GenS env scope x where
  kind := h1
  co := h2
  cell := fun y hy z => by
    have := List.all_eq_true.mp h3 y hy
    rw [z] at this
    cases this
  dot := h4
  loc := h5
  free := fun y hy z => by
    have := List.all_eq_true.mp h6 y hy
    rw [z] at this
    exact Option.isSome_iff_exists.mp this
end Gx
end PySem
namespace My
open PySem L2 PySem.Spec PyProof.Rows
theorem yesI {σ : L2.St} {H : Hp} {F : Bool → Hp → Prop} (h : F true H) : tYes σ H F := h
/-- a sum of tuples, wherever it stands -/
theorem catA_of {K : PySem.W.Frag} {H : Hp} {Q : VK} {a b : Addr} {xs ys : List V} (hx : SqT K H a xs) (hy : SqT K H b ys) (hl : xs.length + ys.length ≤ sizeLine) (k : ∀ p H', Same H H' → SqT K H' p (xs ++ ys) → Q (.ref p) H') : rCatA K (.ref a) (.ref b) H Q := by
  refine ⟨a, b, xs, ys, rfl, rfl, hx, hy, hl, fun e => ?_, fun _ e => ?_, fun _ _ p hp => k p _ (same_new hp) tHere⟩
  · subst e; exact k b H (Same.refl _) hy
  · subst e; exact k a H (Same.refl _) (by rw [List.append_nil]; exact hx)
theorem cut_whole {xs : List V} {lo hi : Option Int} (h : HT.sIx xs.length 0 lo = 0 ∧ HT.sIx xs.length xs.length hi = xs.length) : cutV xs lo hi = xs := by
  unfold cutV
  rw [h.1, h.2]
  simp
theorem slA_of {K : PySem.W.Frag} {H : Hp} {Q : VK} {a : Addr} {xs : List V} {lo hi : Option Int} (hx : SqT K H a xs) (k : ∀ p H', Same H H' → SqT K H' p (cutV xs lo hi) → Q (.ref p) H') : rSlA K (.ref a) lo hi H Q :=
  ⟨a, xs, rfl, hx, fun h => k a H (Same.refl _) (by rw [cut_whole h]; exact hx), fun _ p hp => k p _ (same_new hp) tHere⟩
/-- a def of which the code object is known -/
structure FunT (K : PySem.W.Frag) (x qual : Str) (st : Stmt) (f : Addr) (fd : FuncData) (c : Addr) : Prop where
  ex : ∃ (oc : Value) (od : Option Addr) (kV doc pm : Value) (an : Option Addr) (ct : Value) (osl : Array (Option Value)),
    fd = PySem.W.fnOf x qual (defArgs st) (defBody st) (defScope st) .none kV doc pm an (.ref c) ct ∧ K.lookup f = some ⟨oc, od, .func fd, osl⟩ ∧ PySem.W.codeIn K (.ref c) qual = true
  kp : PySem.W.keepIn K (.ref f) = true
theorem funT_mk {K : PySem.W.Frag} {x qual : Str} {st : Stmt} {f c : Addr} {oc : Value} {od an : Option Addr} {osl : Array (Option Value)} {kV doc pm cdv ct : Value} (l : K.lookup f = some ⟨oc, od, .func (PySem.W.fnOf x qual (defArgs st) (defBody st) (defScope st) .none kV doc pm an cdv ct), osl⟩)
    (h : PySem.W.codeIn K cdv qual = true) (k : PySem.W.keepIn K (.ref f) = true) (e : cdv = .ref c) : FunT K x qual st f (PySem.W.fnOf x qual (defArgs st) (defBody st) (defScope st) .none kV doc pm an cdv ct) c := by
  subst e
  exact ⟨⟨oc, od, kV, doc, pm, an, ct, osl, rfl, l, h⟩, k⟩
section
variable {P : Program} {w : World} {K : PySem.W.Frag} {mg : Str → Option Value} {base : Heap}
theorem FunT.ok {x qual : Str} {st : Stmt} {f c : Addr} {fd : FuncData} {N ps : List Str} {k : Nat} {sp : Sp} (F : FunT K x qual st f fd c) (S : FnScope N ps (defScope st)) (len : ∀ vs H Q E, sp vs H Q E → vs.length = ps.length)
    (hbody : ∀ (A : Around) (outer : List Env) (s : Shared) (H : Hp) (vs : List V) (Q : VK) (E : XK), Room k (A.deeper (envOfC qual (defScope st) s.heap.objs.size f (.ref c))) → sp vs H Q E →
      ∃ t, PSs (cxOf CX0 P w K mg base N qual (defScope st) f (.ref c) A outer s H E).nox (defBody st) t ∧ t { nx := fun _ H' => Q .non H', rt := Q } (start N vs) H) : FnOk P w K mg base CX0 (k + 1) f fd ps sp := by
  obtain ⟨oc, od, kV, doc, pm, an, ct, osl, rfl, lk, hcd⟩ := F.ex
  refine fn_of lk hcd S len fun A outer s H vs Q E hr hsp => ?_
  obtain ⟨t, h, q⟩ := hbody A outer s H vs Q E hr hsp
  exact ⟨t, h.nox, q⟩
end
/-- a def's code object and its table, from what stands in the part that is written out -/
theorem tabIn_of {K : PySem.W.Frag} {x : Str} {f c P : Addr} {oc t1 cdv : Value} {od t2 : Option Addr} {fd : FuncData} {osl t3 : Array (Option Value)} {vs : Array Value} (a : PySem.W.nsIn K mainGlobals x = some (some (.ref f))) (l : K.lookup f = some ⟨oc, od, .func fd, osl⟩) (hc : fd.code = cdv) (e : cdv = .ref c)
    (o : K.lookup c = some ⟨t1, t2, .fields vs, t3⟩) (v : (vs[11]? : Option Value) = some (.ref P)) : PySem.W.tabIn K x = some (c, P) := by
  unfold PySem.W.tabIn
  rw [a]
  show (match K.lookup f with | some ⟨_, _, .func fd, _⟩ => _ | _ => none) = _
  rw [l]
  show (match fd.code with | .ref c => _ | _ => none) = _
  rw [hc, e]
  show (match K.lookup c with | some ⟨_, _, .fields vs, _⟩ => _ | _ => none) = _
  rw [o]
  show (match (vs[11]? : Option Value) with | some (.ref P) => _ | _ => none) = _
  rw [v]
/-- a law with tables: what its promise asks -/
def spLawT (K : PySem.W.Frag) (ts : List Addr) : Sp := fun vs H Q _ => ∃ (a : Addr) (ns : List Int), vs = [.ref a] ∧ SqL K H a (ns.map V.int) ∧ ns.length ≤ 63 ∧ Tbs ts H ∧ ∀ H', Q (.bl true) H'
/-- what is known of the tables at the head -/
def TabsOf (q : Program) (K : PySem.W.Frag) (h : Heap) : Prop := ∀ (x : Str) (c P : Addr), ((recsOf q).any fun e => e.name == x) = true → PySem.W.tabIn K x = some (c, P) → PySem.W.CodeHd h c P ∧ h.get? P = some (PySem.W.tabObj #[])
theorem walkT {l : PySem.W.OpenLaw} {q : Program} {loose : List Str} {XP : (Str → Option Value) → Heap → Prop} {YP : World → Heap → Prop} {d : DefRec} {K : Params → PySem.W.Frag} {k : Nat} (hr : Room k callerA) (hn : l.most = some 63) (hdf : d.params.defaults = [])
    (hY : ∀ (w : World) (h : Heap), YP w h → (K w.params).In h)
    (F : ∀ (w : World) (mg : Str → Option Value) (fa : Addr) (h : Heap), TabsOf q (K w.params) h → (K w.params).In h → h.Ns mainGlobals mg → mg d.name = some (.ref fa) → LamX.LawAtS l w (K w.params) CX0 k 63 "script" mg fa h) :
    PySem.W.WalkO q loose XP YP l.row.toRowW d [] (fun f vs => PySem.call f vs) := by
  refine Att.attach_callB hn hdf fun w s₀ s₁ mg mb fa o pm cd doc a vs ns G Y ho hd hcd hmg hobj hints hlen hbits hg => ?_
  have KX := hY w _ Y
  obtain ⟨fd, cs, sp, hT, nT, C, hb, hsp, hF⟩ := F w mg fa _ (fun x c P hr ht => by
    obtain ⟨e, he⟩ := List.find?_isSome.mpr (List.any_eq_true.mp hr) |> Option.isSome_iff_exists.mp
    exact PySem.W.tab_of G.T KX he ht) KX G.T.g hmg
  exact LamX.law_callTs (CX := CX0) (k := k) (x := "script") KX G.T.g G.T.b G.T.builtins G.T.nolimit hg hT nT C G.T.bmain hobj hints (Nat.le_trans hlen (by decide)) hr hF hb (fun H hH hS => hsp H a ns hlen hbits hH hS) fun _ _ _ z => z
theorem tbs_nil {cs : List (Addr × Addr)} {ts : List Addr} {H : Hp} (e : cs.map (·.2) = ts) (h : ∀ p ∈ cs, H p.2 = some (.tbl #[])) : Tbs ts H := fun P hP => by
  subst e
  obtain ⟨p, hp, rfl⟩ := List.mem_map.mp hP
  exact ⟨#[], h p hp, True.intro⟩
end My
namespace My
open PySem L2
/-! ## looks, rules, styles as values -/
def betB (lo hi : Int) : V → Bool
  | .int i => decide (lo ≤ i) && decide (i ≤ hi)
  | _ => false
def LET : List Nat := (Str.ofString "abcdefghijklmnopqrstuvwxyz").cps.toList
def DIG : List Nat := (Str.ofString "0123456789").cps.toList
def headB : List Nat → Bool
  | c :: _ => decide (c ∈ LET)
  | [] => false
def nameB (s : Str) : Bool := (decide ((1 : Int) ≤ s.length) && decide ((s.length : Int) ≤ 12)) && (headB s.cps.toList && s.cps.toList.all fun c => decide (c ∈ LET) || decide (c ∈ DIG))
def nameV : V → Bool
  | .str s => nameB s
  | _ => false
def lookB : List V → Bool
  | [u, v] => betB 1 63 v && decide (u = .str "fill")
  | [u, v, x] => betB 1 63 v && ((decide (u = .str "stroke") || decide (u = .str "dot")) && betB 1 16 x)
  | _ => false
/-- the words that stand ahead -/
def lookU (xs : List V) : Prop := ∀ s r, xs = .str s :: r → s = "fill" ∨ s = "stroke" ∨ s = "dot" ∨ s = "paint"
def leV : V → V → Bool
  | .int i, .int j => decide (i ≤ j)
  | _, _ => false
def ruleB (k l m o : V) (c : Bool) : Bool := (nameV k || decide (k = .str "")) && (betB 0 6 l && (betB 0 6 m && (leV l m && (betB (-8) 8 o && c))))
section
variable {K : PySem.W.Frag} {H H' : Hp} {a p s D : Addr} {x v : V} {b c : Bool} {xs : List V} {o : HO}
/-- x is a value of which is_look is b -/
def LV (K : PySem.W.Frag) (H : Hp) (x : V) (b : Bool) : Prop := ∃ n, Ty K H x n ∧ (n = "tuple" → ∃ a xs, x = .ref a ∧ SqT K H a xs ∧ (∀ v ∈ xs, ∃ m, Ty K H v m) ∧ lookU xs ∧ b = lookB xs) ∧ (n ≠ "tuple" → b = false)
def RV (K : PySem.W.Frag) (H : Hp) (x : V) (b : Bool) : Prop := ∃ n, Ty K H x n ∧ (n = "tuple" → ∃ a xs, x = .ref a ∧ SqT K H a xs ∧ ((xs.length ≠ 5 ∧ b = false) ∨
  ∃ k l m o u c, xs = [k, l, m, o, u] ∧ (k = .non ∨ ∃ s : Str, k = .str s ∧ s.length ≤ 100) ∧ (∃ n, Ty K H l n) ∧ (∃ n, Ty K H m n) ∧ (∃ n, Ty K H o n) ∧ LV K H u c ∧ b = ruleB k l m o c)) ∧ (n ≠ "tuple" → b = false)
def StV (K : PySem.W.Frag) (H : Hp) (x : V) (b : Bool) : Prop := ∃ n, Ty K H x n ∧ (n = "tuple" → ∃ (a : Addr) (xs : List V) (bs : List Bool), x = .ref a ∧ SqT K H a xs ∧ xs.length ≤ 1000 ∧ bs.length = xs.length ∧
  (∀ (i : Nat) v c, xs[i]? = some v → bs[i]? = some c → RV K H v c) ∧ b = (decide ((xs.length : Int) ≤ 12) && bs.all id)) ∧ (n ≠ "tuple" → b = false)
theorem LV.same (e : Same H H') (h : LV K H x b) : LV K H' x b := by
  obtain ⟨n, t, h1, h2⟩ := h
  refine ⟨n, t.same e, fun q => ?_, h2⟩
  obtain ⟨a, xs, e1, e2, e3, e4⟩ := h1 q
  exact ⟨a, xs, e1, tSame e e2, fun v hv => (e3 v hv).imp fun _ h => h.same e, e4⟩
theorem RV.same (e : Same H H') (h : RV K H x b) : RV K H' x b := by
  obtain ⟨n, t, h1, h2⟩ := h
  refine ⟨n, t.same e, fun q => ?_, h2⟩
  obtain ⟨a, xs, e1, e2, e3⟩ := h1 q
  refine ⟨a, xs, e1, tSame e e2, e3.imp (fun z => z) ?_⟩
  rintro ⟨k, l, m, o, u, c, f1, f2, f3, f4, f5, f6, f7⟩
  exact ⟨k, l, m, o, u, c, f1, f2, f3.imp fun _ h => h.same e, f4.imp fun _ h => h.same e, f5.imp fun _ h => h.same e, f6.same e, f7⟩
/-- a good look -/
inductive Look : List V → Prop where
  | fill (c : Int) (h1 : 1 ≤ c) (h2 : c ≤ 63) : Look [.str "fill", .int c]
  | line (s : Str) (c w : Int) (hs : s = "stroke" ∨ s = "dot") (h1 : 1 ≤ c) (h2 : c ≤ 63) (h3 : 1 ≤ w) (h4 : w ≤ 16) : Look [.str s, .int c, .int w]
theorem two_ty {u v : V} {m n : String} (h1 : Ty K H u m) (h2 : Ty K H v n) : ∀ x ∈ [u, v], ∃ m, Ty K H x m := by
  intro x hx
  simp only [List.mem_cons, List.not_mem_nil, or_false] at hx
  rcases hx with rfl | rfl
  · exact ⟨_, h1⟩
  · exact ⟨_, h2⟩
theorem three_ty {u v z : V} {m n k : String} (h1 : Ty K H u m) (h2 : Ty K H v n) (h3 : Ty K H z k) : ∀ x ∈ [u, v, z], ∃ m, Ty K H x m := by
  intro x hx
  simp only [List.mem_cons, List.not_mem_nil, or_false] at hx
  rcases hx with rfl | rfl | rfl
  · exact ⟨_, h1⟩
  · exact ⟨_, h2⟩
  · exact ⟨_, h3⟩
theorem Look.ty (h : Look xs) : ∀ x ∈ xs, ∃ m, Ty K H x m := by
  cases h with
  | fill c _ _ => exact two_ty (.str _) (.int _)
  | line s c w _ _ _ _ _ => exact three_ty (.str _) (.int _) (.int _)
theorem Look.u (h : Look xs) : lookU xs := by
  intro s r e
  cases h with
  | fill c _ _ => injection e with e _; injection e with e; exact .inl e.symm
  | line z c w hs _ _ _ _ =>
    injection e with e _
    injection e with e
    subst e
    rcases hs with rfl | rfl
    · exact .inr (.inl rfl)
    · exact .inr (.inr (.inl rfl))
theorem betB_ok {lo hi i : Int} (h1 : lo ≤ i) (h2 : i ≤ hi) : betB lo hi (.int i) = true := by simp [betB, h1, h2]
theorem Look.ok (h : Look xs) : lookB xs = true := by
  cases h with
  | fill c h1 h2 => show (betB 1 63 (.int c) && decide _) = true; rw [betB_ok h1 h2]; rfl
  | line s c w hs h1 h2 h3 h4 =>
    show (betB 1 63 (.int c) && ((decide _ || decide _) && betB 1 16 (.int w))) = true
    rw [betB_ok h1 h2, betB_ok h3 h4]
    rcases hs with rfl | rfl <;> decide
theorem LV.of (h : SqT K H a xs) (hm : ∀ v ∈ xs, ∃ m, Ty K H v m) (hu : lookU xs) (e : lookB xs = b) : LV K H (.ref a) b := ⟨_, .tup h, fun _ => ⟨_, _, rfl, h, hm, hu, e.symm⟩, fun z => absurd rfl z⟩
/-- a good rule -/
structure RuleAt (K : PySem.W.Frag) (H : Hp) (r : Addr) (k : Str) (l m o : Int) (u : Addr) (xs : List V) : Prop where
  r : SqT K H r [.str k, .int l, .int m, .int o, .ref u]
  u : SqT K H u xs
  look : Look xs
  k : k = "" ∨ k = "farm" ∨ k = "way" ∨ k = "pond"
  l0 : 0 ≤ l
  lm : l ≤ m
  m6 : m ≤ 6
  o1 : -8 ≤ o
  o2 : o ≤ 8
def RuleE (K : PySem.W.Frag) (H : Hp) (r : Addr) : Prop := ∃ k l m o u xs, RuleAt K H r k l m o u xs
theorem RuleE.same (e : Same H H') (h : RuleE K H a) : RuleE K H' a := by
  obtain ⟨k, l, m, o, u, xs, h⟩ := h
  exact ⟨k, l, m, o, u, xs, { h with r := tSame e h.r, u := tSame e h.u }⟩
theorem RuleE.but {b : Addr} (e : But s H H') (S : Strm H s b) (h : RuleE K H a) : RuleE K H' a := by
  obtain ⟨k, l, m, o, u, xs, h⟩ := h
  exact ⟨k, l, m, o, u, xs, { h with r := tButS e S h.r, u := tButS e S h.u }⟩
theorem RuleE.put (n : ∃ ys, H D = some (.lst ys)) (h : RuleE K H a) : RuleE K (upd H D o) a := by
  obtain ⟨k, l, m, o', u, xs, h⟩ := h
  exact ⟨k, l, m, o', u, xs, { h with r := tAt n h.r, u := tAt n h.u }⟩
theorem all_get {bs : List Bool} : bs.all id = true ↔ ∀ (i : Nat) c, bs[i]? = some c → c = true := by
  constructor
  · intro h i c e
    exact List.all_eq_true.mp h c (List.mem_of_getElem? e)
  · intro h
    rw [List.all_eq_true]
    intro c hc
    obtain ⟨i, e⟩ := List.getElem?_of_mem hc
    exact h i c e
theorem StV.same (e : Same H H') (h : StV K H x b) : StV K H' x b := by
  obtain ⟨n, t, h1, h2⟩ := h
  refine ⟨n, t.same e, fun q => ?_, h2⟩
  obtain ⟨a, xs, bs, e1, e2, e3, e4, e5, e6⟩ := h1 q
  exact ⟨a, xs, bs, e1, tSame e e2, e3, e4, fun i v c f1 f2 => (e5 i v c f1 f2).same e, e6⟩
/-! ## values that stay what they are while a stream is drawn -/
def PB (R : Hp → V → Prop) (s : Addr) (H : Hp) (v : V) : Prop := ∀ H', But s H H' → R H' v
theorem PB.but {R : Hp → V → Prop} (h : PB R s H v) (e : But s H H') : PB R s H' v := fun H2 e2 => h H2 (e.trans e2)
structure BL (R : Hp → V → Prop) (H0 H : Hp) (s b : Addr) (vs : List V) : Prop where
  S : Strm H s b
  e : But s H0 H
  F : ∀ x ∈ vs, PB R s H x
theorem BL.nil {R : Hp → V → Prop} (S : Strm H s p) : BL R H H s p [] := ⟨S, But.refl, fun _ h => by cases h⟩
theorem BL.go {R : Hp → V → Prop} {H0 : Hp} {vs : List V} (h : BL R H0 H s p vs) (e : But s H H') (S : Strm H' s p) : BL R H0 H' s p vs := ⟨S, h.e.trans e, fun x hx => (h.F x hx).but e⟩
theorem BL.over {R : Hp → V → Prop} {H0 : Hp} {vs : List V} {q : Addr} (h : BL R H0 H s p vs) (z : H q = none) : BL R H0 (upd H q o) s p vs := h.go (But.new z) (h.S.over z)
theorem cut_take {n : Nat} : cutV xs none (some (n : Int)) = xs.take n := by
  unfold cutV
  rw [show HT.sIx xs.length 0 none = 0 from rfl, HT.sIx_nat, List.drop_zero, Nat.sub_zero]
  rcases Nat.le_total n xs.length with q | q
  · rw [Nat.min_eq_left q]
  · rw [Nat.min_eq_right q, List.take_of_length_le q, List.take_of_length_le (Nat.le_refl _)]
theorem cut_drop {n : Nat} : cutV xs (some (n : Int)) none = xs.drop n := by
  unfold cutV
  rw [show HT.sIx xs.length xs.length none = xs.length from rfl, HT.sIx_nat]
  rcases Nat.le_total n xs.length with q | q
  · rw [Nat.min_eq_left q, List.take_of_length_le (by rw [List.length_drop]; exact Nat.le_refl _)]
  · rw [Nat.min_eq_right q, List.drop_of_length_le q, List.drop_of_length_le (Nat.le_refl _), List.take_nil]
theorem noPart {σ : L2.St} {k : Option Int → Hp → Prop} (h : k none H) : tNoPart σ H k := h
end
end My
namespace PySem
end PySem
namespace My
open PySem L2
/-- the order of points -/
def ltP (ax ay bx dy : Int) : Bool := decide (ax < bx ∨ (ax = bx ∧ ay < dy))
theorem OpR.of {X : Cx} {f : Value → Value → Sem Value} {r r' : R2} (h : OpR X f r) (w : ∀ x y H Q, r' x y H Q → r x y H Q) : OpR X f r' := by
  intro pins s σ H x y v u Q I rx ry q
  exact h pins s σ H x y v u Q I rx ry (w x y H Q q)
def pD (x y : Int) : PyData := .tuple [.int x, .int y]
theorem dP {K : PySem.W.Frag} {H : Hp} {a : Addr} {x y : Int} (h : SqT K H a [.int x, .int y]) : Dp K H (.ref a) (pD x y) := .tup h (.cons (.int _) (.cons (.int _) .nil))
/-- two points, what is asked of a function of their numbers -/
def rPP (K : PySem.W.Frag) (f : Int → Int → Int → Int → V) : R2 := fun x y H Q => ∃ (a b : Addr) (ax ay bx dy : Int), x = .ref a ∧ y = .ref b ∧ SqT K H a [.int ax, .int ay] ∧ SqT K H b [.int bx, .int dy] ∧ Q (f ax ay bx dy) H
theorem op_leP {X : Cx} (hu : X.A.units < cLine) : OpR X (compareOp .LtE) (rPP X.K fun ax ay bx dy => .bl (!ltP bx dy ax ay)) :=
  OpR.of (op_leT hu) fun x y H Q ⟨a, b, ax, ay, bx, dy, e1, e2, ha, hb, q⟩ => ⟨a, b, [ax, ay], [bx, dy], e1, e2, ha, hb, by
    have e : Ob.lexAt (fun j => decide (([ax, ay] : List Int).getD j 0 = ([bx, dy] : List Int).getD j 0)) (fun j => decide (([ax, ay] : List Int).getD j 0 ≤ ([bx, dy] : List Int).getD j 0)) (decide (([ax, ay] : List Int).length ≤ ([bx, dy] : List Int).length)) 0 (min ([ax, ay] : List Int).length ([bx, dy] : List Int).length) = !ltP bx dy ax ay := by
      show (if decide (ax = bx) = true then (if decide (ay = dy) = true then true else decide (ay ≤ dy)) else decide (ax ≤ bx)) = _
      unfold ltP
      by_cases h : ax = bx
      · subst h
        by_cases g : ay = dy
        · subst g; simp
        · have : decide (ay ≤ dy) = !decide (dy < ay) := by
            by_cases z : ay ≤ dy
            · rw [decide_eq_true z, decide_eq_false (by omega)]; rfl
            · rw [decide_eq_false z, decide_eq_true (by omega)]; rfl
          simp [g, this]
      · by_cases z : ax ≤ bx
        · have : ¬ bx < ax := by omega
          have h2 : ¬ bx = ax := fun e => h e.symm
          simp [h, z, this, h2]
        · have : bx < ax := by omega
          simp [h, z, this]
    rw [e]; exact q⟩
theorem eqvP (ax ay bx dy : Int) : PyData.eqv (pD ax ay) (pD bx dy) = decide (ax = bx ∧ ay = dy) := by
  unfold pD
  simp [PyData.eqv, PyData.eqvAll]
  by_cases h : ax = bx <;> by_cases g : ay = dy <;> simp [h, g]
theorem op_eqP {X : Cx} (hu : X.A.units + 64 < cLine) : OpR X (compareOp .Eq) (rPP X.K fun ax ay bx dy => .bl (decide (ax = bx ∧ ay = dy))) :=
  OpR.of (op_eqD hu) fun x y H Q ⟨a, b, ax, ay, bx, dy, e1, e2, ha, hb, q⟩ => by subst e1 e2; exact ⟨_, _, dP ha, dP hb, rfl, rfl, by rw [eqvP]; exact q⟩
end My
namespace My
/-! ## a point and a segment: v from end to end, u from the first end to the point -/
/-- how far the point is from the place n / d of the way, times d, squared -/
def gapN (ux uy vx vy n d : Int) : Int := (ux * d - n * vx) * (ux * d - n * vx) + (uy * d - n * vy) * (uy * d - n * vy)
def sq (vx vy : Int) : Int := vx * vx + vy * vy
def dot (ux uy vx vy : Int) : Int := ux * vx + uy * vy
def crs (ux uy vx vy : Int) : Int := vx * uy - vy * ux
def clamp (al s : Int) : Int := if s < (if 0 > al then 0 else al) then s else (if 0 > al then 0 else al)
theorem sq_nn (x : Int) : 0 ≤ x * x := by
  rcases Int.le_total 0 x with h | h
  · exact Int.mul_nonneg h h
  · exact Int.mul_nonneg_of_nonpos_of_nonpos h h
theorem sq_pos {vx vy : Int} (h : vx ≠ 0 ∨ vy ≠ 0) : 0 < sq vx vy := by
  unfold sq
  have a := sq_nn vx
  have b := sq_nn vy
  rcases h with h | h
  · have : vx * vx ≠ 0 := Int.mul_ne_zero h h
    omega
  · have : vy * vy ≠ 0 := Int.mul_ne_zero h h
    omega
/-! ### on the segment -/
/-- by the order of points -/
def onB (ux uy vx vy : Int) : Bool := decide (crs ux uy vx vy = 0) && (!ltP ux uy 0 0 && !ltP vx vy ux uy)
/-- by the ranges -/
def boxB (ux uy vx vy : Int) : Bool := decide (crs ux uy vx vy = 0) && ((decide ((if vx < 0 then vx else 0) ≤ ux) && decide (ux ≤ (if vx > 0 then vx else 0))) && (decide ((if vy < 0 then vy else 0) ≤ uy) && decide (uy ≤ (if vy > 0 then vy else 0))))
/-- on the line: between the ends exactly if the product is -/
theorem on_line {ux uy vx vy : Int} (hl : ltP 0 0 vx vy = true) (ht : crs ux uy vx vy = 0) :
    ((!ltP ux uy 0 0 && !ltP vx vy ux uy) = true ↔ 0 ≤ dot ux uy vx vy ∧ dot ux uy vx vy ≤ sq vx vy) ∧
    (((decide ((if vx < 0 then vx else 0) ≤ ux) && decide (ux ≤ (if vx > 0 then vx else 0))) && (decide ((if vy < 0 then vy else 0) ≤ uy) && decide (uy ≤ (if vy > 0 then vy else 0)))) = true ↔ 0 ≤ dot ux uy vx vy ∧ dot ux uy vx vy ≤ sq vx vy) := by
  have hv : 0 < vx ∨ (0 = vx ∧ 0 < vy) := of_decide_eq_true hl
  have ht : vx * uy = vy * ux := by unfold crs at ht; omega
  have hs : 0 < sq vx vy := sq_pos (by omega)
  rcases hv with hv | ⟨rfl, hv⟩
  · -- it goes to the right
    have e : sq vx vy * ux = dot ux uy vx vy * vx := by
      unfold sq dot
      have : vy * (vx * uy) = vy * (vy * ux) := by rw [ht]
      grind
    have k1 : 0 ≤ dot ux uy vx vy ↔ 0 ≤ ux := by
      constructor
      · intro h
        have := Int.mul_nonneg h (Int.le_of_lt hv)
        rw [← e] at this
        exact Int.nonneg_of_mul_nonneg_right this hs
      · intro h
        have := Int.mul_nonneg (Int.le_of_lt hs) h
        rw [e] at this
        exact Int.nonneg_of_mul_nonneg_left this hv
    have k2 : dot ux uy vx vy ≤ sq vx vy ↔ ux ≤ vx := by
      constructor
      · intro h
        have := Int.mul_le_mul_of_nonneg_right h (Int.le_of_lt hv)
        rw [← e] at this
        exact Int.le_of_mul_le_mul_left this hs
      · intro h
        have := Int.mul_le_mul_of_nonneg_left h (Int.le_of_lt hs)
        rw [e] at this
        exact Int.le_of_mul_le_mul_right this hv
    rw [k1, k2]
    have z0 : ux = 0 → uy = 0 := fun z => by
      rw [z, Int.mul_zero] at ht
      rcases Int.mul_eq_zero.mp ht with q | q <;> omega
    have z1 : ux = vx → uy = vy := fun z => by
      rw [z, Int.mul_comm vy vx] at ht
      exact Int.eq_of_mul_eq_mul_left (by omega) ht
    refine ⟨?_, ?_⟩
    · unfold ltP
      simp only [Bool.and_eq_true, Bool.not_eq_true', decide_eq_false_iff_not]
      omega
    · simp only [Bool.and_eq_true, decide_eq_true_eq]
      constructor
      · rintro ⟨⟨h1, h2⟩, _⟩
        rw [if_neg (by omega)] at h1
        rw [if_pos (by omega)] at h2
        exact ⟨h1, h2⟩
      · rintro ⟨h1, h2⟩
        refine ⟨⟨by rw [if_neg (by omega)]; exact h1, by rw [if_pos (by omega)]; exact h2⟩, ?_⟩
        rcases Int.lt_trichotomy vy 0 with y | y | y
        · have a1 : vy * ux ≤ 0 := Int.mul_nonpos_of_nonpos_of_nonneg (by omega) h1
          have a2 : vy * vx ≤ vy * ux := Int.mul_le_mul_of_nonpos_left (by omega) h2
          have a3 : uy ≤ 0 := by
            rcases Int.le_total uy 0 with q | q
            · exact q
            · rcases Int.lt_or_le 0 uy with r | r
              · have := Int.mul_pos hv r; omega
              · exact r
          have a4 : vy ≤ uy := by
            have : vx * vy ≤ vx * uy := by rw [ht, Int.mul_comm vx vy]; exact a2
            exact Int.le_of_mul_le_mul_left this hv
          rw [if_pos y, if_neg (by omega)]
          exact ⟨a4, a3⟩
        · have : uy = 0 := by
            rw [y, Int.zero_mul] at ht
            rcases Int.mul_eq_zero.mp ht with q | q <;> omega
          rw [if_neg (by omega), if_neg (by omega)]
          omega
        · have a1 : 0 ≤ vy * ux := Int.mul_nonneg (by omega) h1
          have a2 : vy * ux ≤ vy * vx := Int.mul_le_mul_of_nonneg_left h2 (by omega)
          have a3 : 0 ≤ uy := by
            rcases Int.lt_or_le uy 0 with r | r
            · have := Int.mul_neg_of_pos_of_neg hv r; omega
            · exact r
          have a4 : uy ≤ vy := by
            have : vx * uy ≤ vx * vy := by rw [ht, Int.mul_comm vx vy]; exact a2
            exact Int.le_of_mul_le_mul_left this hv
          rw [if_neg (by omega), if_pos y]
          exact ⟨a3, a4⟩
  · -- it goes up
    have u0 : ux = 0 := by
      rw [Int.zero_mul] at ht
      rcases Int.mul_eq_zero.mp ht.symm with q | q <;> omega
    subst u0
    have d1 : dot 0 uy 0 vy = uy * vy := by unfold dot; omega
    have d2 : sq 0 vy = vy * vy := by unfold sq; omega
    rw [d1, d2]
    have k1 : 0 ≤ uy * vy ↔ 0 ≤ uy := by
      constructor
      · intro h; exact Int.nonneg_of_mul_nonneg_left h hv
      · intro h; exact Int.mul_nonneg h (by omega)
    have k2 : uy * vy ≤ vy * vy ↔ uy ≤ vy := by
      constructor
      · intro h; exact Int.le_of_mul_le_mul_right h hv
      · intro h; exact Int.mul_le_mul_of_nonneg_right h (by omega)
    rw [k1, k2]
    refine ⟨?_, ?_⟩
    · clear k1 k2 d1 d2 hs
      unfold ltP
      simp only [Bool.and_eq_true, Bool.not_eq_true', decide_eq_false_iff_not]
      simp only [true_and]
      omega
    · simp only [Bool.and_eq_true, decide_eq_true_eq]
      rw [if_neg (show ¬ vy < 0 by omega), if_pos (show vy > 0 by omega)]
      simp
theorem on_same {ux uy vx vy : Int} (hv : ltP 0 0 vx vy = true) : onB ux uy vx vy = boxB ux uy vx vy := by
  unfold onB boxB
  by_cases ht : crs ux uy vx vy = 0
  · obtain ⟨k1, k2⟩ := on_line hv ht
    rw [decide_eq_true ht, Bool.true_and, Bool.true_and]
    exact Bool.eq_iff_iff.mpr (k1.trans k2.symm)
  · rw [decide_eq_false ht, Bool.false_and, Bool.false_and]
end My
namespace My
open PySem L2
theorem ltP_sub (ax ay bx dy cx cy : Int) : ltP (ax - cx) (ay - cy) (bx - cx) (dy - cy) = ltP ax ay bx dy := by
  unfold ltP
  exact decide_eq_decide.mpr (by omega)
theorem ltP_sub0 (ax ay cx cy : Int) : ltP (ax - cx) (ay - cy) 0 0 = ltP ax ay cx cy := by
  unfold ltP
  exact decide_eq_decide.mpr (by omega)
theorem ltP_0sub (ax ay cx cy : Int) : ltP 0 0 (ax - cx) (ay - cy) = ltP cx cy ax ay := by
  unfold ltP
  exact decide_eq_decide.mpr (by omega)
/-- on the segment, told by the program -/
def onI (ax ay bx dy px py : Int) : Bool := decide (turnI ax ay bx dy px py = 0) && (!ltP px py ax ay && !ltP bx dy px py)
/-- on the segment, told by the law -/
def boxI (ax ay bx dy px py : Int) : Bool := decide (turnI ax ay bx dy px py = 0) && ((decide ((if bx < ax then bx else ax) ≤ px) && decide (px ≤ (if bx > ax then bx else ax))) && (decide ((if dy < ay then dy else ay) ≤ py) && decide (py ≤ (if dy > ay then dy else ay))))
theorem onI_B (ax ay bx dy px py : Int) : onI ax ay bx dy px py = onB (px - ax) (py - ay) (bx - ax) (dy - ay) := by
  unfold onI onB
  rw [ltP_sub0, ltP_sub]
  rfl
theorem boxI_B (ax ay bx dy px py : Int) : boxI ax ay bx dy px py = boxB (px - ax) (py - ay) (bx - ax) (dy - ay) := by
  have e1 : ∀ a b p : Int, decide ((if b < a then b else a) ≤ p) = decide ((if b - a < 0 then b - a else 0) ≤ p - a) := fun a b p => decide_eq_decide.mpr (by split <;> split <;> omega)
  have e2 : ∀ a b p : Int, decide (p ≤ (if b > a then b else a)) = decide (p - a ≤ (if b - a > 0 then b - a else 0)) := fun a b p => decide_eq_decide.mpr (by split <;> split <;> omega)
  unfold boxI boxB
  rw [e1 ax bx px, e2 ax bx px, e1 ay dy py, e2 ay dy py]
  rfl
theorem onI_box {ax ay bx dy px py : Int} (h : ltP ax ay bx dy = true) : onI ax ay bx dy px py = boxI ax ay bx dy px py := by
  rw [onI_B, boxI_B]
  exact on_same (by rw [ltP_0sub]; exact h)
/-- the numbers of a point of the map, from another one -/
theorem On.d {ax ay px py : Int} (h : On px py) (g : On ax ay) : ((px - ax).natAbs ≤ 2 ^ 11 ∧ (py - ay).natAbs ≤ 2 ^ 11) := by unfold On at h g; omega
theorem sq_le {vx vy : Int} (h : vx.natAbs ≤ 2 ^ 11 ∧ vy.natAbs ≤ 2 ^ 11) : (sq vx vy).natAbs ≤ 2 ^ 23 := add_le (mul_le h.1 h.1) (mul_le h.2 h.2)
theorem dot_le {ux uy vx vy : Int} (h : ux.natAbs ≤ 2 ^ 11 ∧ uy.natAbs ≤ 2 ^ 11) (g : vx.natAbs ≤ 2 ^ 11 ∧ vy.natAbs ≤ 2 ^ 11) : (dot ux uy vx vy).natAbs ≤ 2 ^ 23 := add_le (mul_le h.1 g.1) (mul_le h.2 g.2)
theorem clamp_le {al s : Int} (h : al.natAbs ≤ 2 ^ 23) (g : s.natAbs ≤ 2 ^ 23) : (clamp al s).natAbs ≤ 2 ^ 23 := by
  unfold clamp
  split <;> split at * <;> omega
theorem gap_le {ux uy vx vy n d : Int} (h : ux.natAbs ≤ 2 ^ 11 ∧ uy.natAbs ≤ 2 ^ 11) (g : vx.natAbs ≤ 2 ^ 11 ∧ vy.natAbs ≤ 2 ^ 11) (hn : n.natAbs ≤ 2 ^ 23) (hd : d.natAbs ≤ 2 ^ 23) :
    (ux * d - n * vx).natAbs ≤ 2 ^ 35 ∧ (uy * d - n * vy).natAbs ≤ 2 ^ 35 ∧ (gapN ux uy vx vy n d).natAbs ≤ 2 ^ 71 := by
  have e1 : (ux * d - n * vx).natAbs ≤ 2 ^ 35 := sub_le (x := 34) (mul_le (x := 11) (y := 23) h.1 hd) (mul_le (x := 23) (y := 11) hn g.1)
  have e2 : (uy * d - n * vy).natAbs ≤ 2 ^ 35 := sub_le (x := 34) (mul_le (x := 11) (y := 23) h.2 hd) (mul_le (x := 23) (y := 11) hn g.2)
  exact ⟨e1, e2, add_le (x := 70) (mul_le (x := 35) (y := 35) e1 e1) (mul_le (x := 35) (y := 35) e2 e2)⟩
/-- a segment at an address -/
structure SegAt (K : PySem.W.Frag) (H : Hp) (g a c : Addr) (ax ay bx dy : Int) : Prop where
  g : SqT K H g [.ref a, .ref c]
  a : SqT K H a [.int ax, .int ay]
  c : SqT K H c [.int bx, .int dy]
  oa : On ax ay
  oc : On bx dy
  lt : ltP ax ay bx dy = true
theorem SegAt.same {K : PySem.W.Frag} {H H' : Hp} {g a c : Addr} {ax ay bx dy : Int} (e : Same H H') (h : SegAt K H g a c ax ay bx dy) : SegAt K H' g a c ax ay bx dy := { h with g := tSame e h.g, a := tSame e h.a, c := tSame e h.c }
theorem SegAt.but {K : PySem.W.Frag} {H H' : Hp} {s b g a c : Addr} {ax ay bx dy : Int} (e : But s H H') (S : Strm H s b) (h : SegAt K H g a c ax ay bx dy) : SegAt K H' g a c ax ay bx dy := { h with g := tButS e S h.g, a := tButS e S h.a, c := tButS e S h.c }
end My
namespace My
open PySem L2
/-! ## the rest of the order of points: >, sorted -/
abbrev Pn := Addr × Int × Int
def pnD (b : Pn) : PyData := pD b.2.1 b.2.2
def pnV (b : Pn) : V := .ref b.1
theorem each_of_vals {R : Value → Pn → Prop} : ∀ {bs : List Pn} {us : List Value}, Vals (bs.map pnV) us → (∀ b ∈ bs, R (.ref b.1) b) → PySem.W.EachIs R us bs
  | [], _, .nil, _ => .nil
  | b :: bs, _, .cons r t, h => by
    have e : _ = Value.ref b.1 := r
    subst e
    exact .cons (h b List.mem_cons_self) (each_of_vals t fun x hx => h x (List.mem_cons_of_mem _ hx))
theorem vals_of_each : ∀ {bs : List Pn} {us : List Value}, PySem.W.EachIs (fun v b => v = Value.ref b.1) us bs → Vals (bs.map pnV) us
  | _, _, .nil => .nil
  | _, _, .cons e t => by
    subst e
    exact .cons (show RelV (.ref _) (.ref _) from rfl) (vals_of_each t)
/-- what it is -/
theorem sortP_perm (bs : List Pn) : (bs.mergeSort fun p q => decide (p.2.1 < q.2.1 ∨ (p.2.1 = q.2.1 ∧ p.2.2 ≤ q.2.2))).Perm bs := List.mergeSort_perm _ _
theorem sortP_le (bs : List Pn) : (bs.mergeSort fun p q => decide (p.2.1 < q.2.1 ∨ (p.2.1 = q.2.1 ∧ p.2.2 ≤ q.2.2))).Pairwise fun p q => ltP q.2.1 q.2.2 p.2.1 p.2.2 = false := by
  have h := List.pairwise_mergeSort (le := fun p q : Pn => decide (p.2.1 < q.2.1 ∨ (p.2.1 = q.2.1 ∧ p.2.2 ≤ q.2.2)))
    (fun a b c h1 h2 => by have := of_decide_eq_true h1; have := of_decide_eq_true h2; exact decide_eq_true (by omega))
    (fun a b => by simp only [Bool.or_eq_true, decide_eq_true_eq]; omega) bs
  refine h.imp fun {a b} h => decide_eq_false ?_
  have := of_decide_eq_true h
  omega
end My
namespace My
/-! ## how two segments meet: points as pairs -/
abbrev Pt := Int × Int
def tn (a b c : Pt) : Int := turnI a.1 a.2 b.1 b.2 c.1 c.2
def lt (a b : Pt) : Bool := ltP a.1 a.2 b.1 b.2
def on (p a b : Pt) : Bool := onI a.1 a.2 b.1 b.2 p.1 p.2
def box (p a b : Pt) : Bool := boxI a.1 a.2 b.1 b.2 p.1 p.2
theorem lt_iff {a b : Pt} : lt a b = true ↔ (a.1 < b.1 ∨ (a.1 = b.1 ∧ a.2 < b.2)) := by unfold lt ltP; rw [decide_eq_true_eq]
theorem lt_no {a b : Pt} : lt a b = false ↔ ¬ (a.1 < b.1 ∨ (a.1 = b.1 ∧ a.2 < b.2)) := by unfold lt ltP; rw [decide_eq_false_iff_not]
theorem pt_eq {a b : Pt} (h1 : a.1 = b.1) (h2 : a.2 = b.2) : a = b := Prod.ext h1 h2
theorem lt_trans {a b c : Pt} (h : lt a b = true) (g : lt b c = true) : lt a c = true := by rw [lt_iff] at *; omega
theorem lt_irr (a : Pt) : lt a a = false := by rw [lt_no]; omega
theorem lt_tri {a b : Pt} (h : lt a b = false) (g : lt b a = false) : a = b := by
  rw [lt_no] at h g
  exact pt_eq (by omega) (by omega)
theorem le_trans {a b c : Pt} (h : lt b a = false) (g : lt c b = false) : lt c a = false := by rw [lt_no] at *; omega
theorem lt_le {a b : Pt} (h : lt a b = true) : lt b a = false := by rw [lt_iff] at h; rw [lt_no]; omega
theorem on_box {p a b : Pt} (h : lt a b = true) : on p a b = box p a b := onI_box h
theorem on_iff {p a b : Pt} : on p a b = true ↔ tn a b p = 0 ∧ lt p a = false ∧ lt b p = false := by
  unfold on onI tn lt
  simp only [Bool.and_eq_true, decide_eq_true_eq, Bool.not_eq_true']
theorem tn_a (a b : Pt) : tn a b a = 0 := by unfold tn turnI; grind
theorem tn_b (a b : Pt) : tn a b b = 0 := by unfold tn turnI; grind
theorem on_a {a b : Pt} (h : lt a b = true) : on a a b = true := on_iff.mpr ⟨tn_a a b, lt_irr a, lt_le h⟩
theorem on_b {a b : Pt} (h : lt a b = true) : on b a b = true := on_iff.mpr ⟨tn_b a b, lt_le h, lt_irr b⟩
/-! ### the program's answer -/
inductive Mt where
  | none | touch (p : Pt) | over (p q : Pt) | cross (x y : Int × Int)
def cutN (u v be af : Int) : Int := u * (be - af) + be * (v - u)
def cross (a b : Pt) (be af : Int) : Mt := .cross (lowN (cutN a.1 b.1 be af) (be - af), lowD (cutN a.1 b.1 be af) (be - af)) (lowN (cutN a.2 b.2 be af) (be - af), lowD (cutN a.2 b.2 be af) (be - af))
/-! ### the law's answer -/
/-- the ends that lie on the other segment -/
def ends (a b c d : Pt) : List Pt := (if on a c d = true then [a] else []) ++ (if on b c d = true then [b] else []) ++ (if on c a b = true then [c] else []) ++ (if on d a b = true then [d] else [])
end My
namespace My
open PySem L2
/-! ## meetings at addresses -/
abbrev PtAt (K : PySem.W.Frag) (H : Hp) (p : Addr) (P : Int × Int) : Prop := SqT K H p [.int P.1, .int P.2]
def MtAt (K : PySem.W.Frag) (H : Hp) (v : V) : Mt → Prop
  | .none => ∃ p, v = .ref p ∧ SqT K H p [.str "none"]
  | .touch P => ∃ p q, v = .ref p ∧ SqT K H p [.str "touch", .ref q] ∧ PtAt K H q P
  | .over P R => ∃ p q r, v = .ref p ∧ SqT K H p [.str "overlap", .ref q, .ref r] ∧ PtAt K H q P ∧ PtAt K H r R
  | .cross x y => ∃ p q r, v = .ref p ∧ SqT K H p [.str "cross", .ref q, .ref r] ∧ PtAt K H q x ∧ PtAt K H r y
theorem MtAt.same {K : PySem.W.Frag} {H H' : Hp} (e : Same H H') {v : V} : ∀ {m : Mt}, MtAt K H v m → MtAt K H' v m
  | .none, ⟨p, h, a⟩ => ⟨p, h, tSame e a⟩
  | .touch _, ⟨p, q, h, a, b⟩ => ⟨p, q, h, tSame e a, tSame e b⟩
  | .over _ _, ⟨p, q, r, h, a, b, c⟩ => ⟨p, q, r, h, tSame e a, tSame e b, tSame e c⟩
  | .cross _ _, ⟨p, q, r, h, a, b, c⟩ => ⟨p, q, r, h, tSame e a, tSame e b, tSame e c⟩
end My
namespace My
open PySem L2
/-! ## lines, and the nearest of their edges -/
theorem walk_zipT {K : PySem.W.Frag} {a b : Addr} {xs ys : List V} {n : Nat} (hn : n = min xs.length ys.length) : Walk (RZ.ItzT K a b) n (fun H => SqT K H a xs ∧ SqT K H b ys) (YPair (fun i => xs[i]?) (fun i => ys[i]?)) :=
  ⟨fun i H hi g => by
    have l1 : i < xs.length := by omega
    have l2 : i < ys.length := by omega
    exact ⟨xs, ys, _, _, g.1, g.2, get_at l1, get_at l2⟩, fun H g => ⟨xs, ys, g.1, g.2, by omega⟩, fun i H v H' _ g y => by
    obtain ⟨T, x, z, e1, e2, e3, e4, e5⟩ := y
    exact ⟨T, x, z, e1, e2, e3, e4 _ g.1, e5 _ g.2⟩⟩
section
variable {K : PySem.W.Frag} {H H' : Hp} {a p s D : Addr} {x v : V} {b c : Bool} {xs : List V} {o : HO} {zs : List Zp}
/-- x is a value of which is_point is b -/
def PV (K : PySem.W.Frag) (H : Hp) (x : V) (b : Bool) : Prop := ∃ n, Ty K H x n ∧ (n = "tuple" → ∃ a xs, x = .ref a ∧ SqT K H a xs ∧ (∀ v ∈ xs, ∃ m, Ty K H v m) ∧ b = pointB xs) ∧ (n ≠ "tuple" → b = false)
theorem PV.same (e : Same H H') (h : PV K H x b) : PV K H' x b := by
  obtain ⟨n, t, h1, h2⟩ := h
  refine ⟨n, t.same e, fun q => ?_, h2⟩
  obtain ⟨a, xs, e1, e2, e3, e4⟩ := h1 q
  exact ⟨a, xs, e1, tSame e e2, fun v hv => (e3 v hv).imp fun _ h => h.same e, e4⟩
theorem PV.tup (h : SqT K H a xs) (hm : ∀ v ∈ xs, ∃ m, Ty K H v m) (e : pointB xs = b) : PV K H (.ref a) b := ⟨_, .tup h, fun _ => ⟨_, _, rfl, h, hm, e.symm⟩, fun z => absurd rfl z⟩
theorem PV.pt {i j : Int} (h : SqT K H a [.int i, .int j]) (g : On i j) : PV K H (.ref a) true := .tup h two_ints g.b
/-- a tuple of values of which is_point is told -/
def AV (K : PySem.W.Frag) (lo hi : Int) (H : Hp) (x : V) (b : Bool) : Prop := ∃ n, Ty K H x n ∧ (n = "tuple" → ∃ (a : Addr) (xs : List V) (bs : List Bool), x = .ref a ∧ SqT K H a xs ∧ xs.length ≤ 1000 ∧ bs.length = xs.length ∧
  (∀ (i : Nat) v c, xs[i]? = some v → bs[i]? = some c → PV K H v c) ∧ b = ((decide (lo ≤ (xs.length : Int)) && decide ((xs.length : Int) ≤ hi)) && bs.all id)) ∧ (n ≠ "tuple" → b = false)
theorem AV.same {lo hi : Int} (e : Same H H') (h : AV K lo hi H x b) : AV K lo hi H' x b := by
  obtain ⟨n, t, h1, h2⟩ := h
  refine ⟨n, t.same e, fun q => ?_, h2⟩
  obtain ⟨a, xs, bs, e1, e2, e3, e4, e5, e6⟩ := h1 q
  exact ⟨a, xs, bs, e1, tSame e e2, e3, e4, fun i v c f g => (e5 i v c f g).same e, e6⟩
/-- points of the map in a tuple -/
structure LnAt (K : PySem.W.Frag) (H : Hp) (a : Addr) (zs : List Zp) : Prop where
  t : SqT K H a (refs zs)
  p : Pts K H zs
  on : ∀ z ∈ zs, On z.2.1 z.2.2
theorem LnAt.same (e : Same H H') (h : LnAt K H a zs) : LnAt K H' a zs := ⟨tSame e h.t, h.p.same e, h.on⟩
theorem LnAt.but {q : Addr} (e : But s H H') (S : Strm H s q) (h : LnAt K H a zs) : LnAt K H' a zs := ⟨tButS e S h.t, h.p.but e S, h.on⟩
theorem LnAt.av {lo hi : Int} (h : LnAt K H a zs) (hz : zs.length ≤ 1000) : AV K lo hi H (.ref a) (decide (lo ≤ (zs.length : Int)) && decide ((zs.length : Int) ≤ hi)) := by
  refine ⟨_, .tup h.t, fun _ => ⟨_, _, List.replicate zs.length true, rfl, h.t, by simpa using hz, by simp, fun i v c e1 e2 => ?_, by simp⟩, fun z => absurd rfl z⟩
  rw [List.getElem?_map] at e1
  obtain ⟨z, e3, rfl⟩ := Option.map_eq_some_iff.mp e1
  have hm := List.mem_of_getElem? e3
  rw [List.getElem?_replicate] at e2
  split at e2
  · injection e2 with e2
    subst e2
    exact .pt (h.p z hm) (h.on z hm)
  · cases e2
/-- neighbours are different -/
def Ne (zs : List Zp) : Prop := ∀ (i : Nat) u w, zs[i]? = some u → zs[i + 1]? = some w → ¬ (u.2.1 = w.2.1 ∧ u.2.2 = w.2.2)
def LnOk (zs : List Zp) : Prop := 2 ≤ zs.length ∧ zs.length ≤ 40 ∧ Ne zs
/-- x is a value of which is_line is b -/
def LnV (K : PySem.W.Frag) (H : Hp) (x : V) (b : Bool) : Prop := (∃ a zs, x = .ref a ∧ LnAt K H a zs ∧ zs.length ≤ 1000 ∧ (b = true ↔ LnOk zs)) ∨ (AV K 2 40 H x false ∧ b = false)
theorem LnV.same (e : Same H H') (h : LnV K H x b) : LnV K H' x b := by
  rcases h with ⟨a, zs, e1, h, h2, h3⟩ | ⟨h, h2⟩
  · exact .inl ⟨a, zs, e1, h.same e, h2, h3⟩
  · exact .inr ⟨h.same e, h2⟩
end
section
variable {K : PySem.W.Frag} {H H' : Hp} {a t : Addr} {zs ws : List Zp}
theorem LnAt.sub (h : LnAt K H t zs) (hw : ∀ z ∈ ws, z ∈ zs) (ht : SqT K H a (refs ws)) : LnAt K H a ws := ⟨ht, fun z hz => h.p z (hw z hz), fun z hz => h.on z (hw z hz)⟩
theorem LnAt.get (h : LnAt K H t zs) {z : Zp} (hz : z ∈ zs) : SqT K H z.1 [.int z.2.1, .int z.2.2] := h.p z hz
end
/-! ## the lowest terms of equal fractions -/
def gR (px py ax ay bx dy : Int) : Int := gapN (px - ax) (py - ay) (bx - ax) (dy - ay) (clamp (dot (px - ax) (py - ay) (bx - ax) (dy - ay)) (sq (bx - ax) (dy - ay))) (sq (bx - ax) (dy - ay))
def gN (px py ax ay bx dy : Int) : Int := lowN (gR px py ax ay bx dy) (sq (bx - ax) (dy - ay) * sq (bx - ax) (dy - ay))
def gD (px py ax ay bx dy : Int) : Int := lowD (gR px py ax ay bx dy) (sq (bx - ax) (dy - ay) * sq (bx - ax) (dy - ay))
/-- the least at which a fraction is least -/
def bI (f : Nat → Int × Int) : Nat → Nat
  | 0 => 0
  | i + 1 => if (f i).1 * (f (bI f i)).2 < (f (bI f i)).1 * (f i).2 then i else bI f i
/-- the gap of the i-th edge -/
def gF (px py : Int) (zs : List Zp) (i : Nat) : Int × Int := match zs[i]?, zs[i + 1]? with
  | some u, some w => (gN px py u.2.1 u.2.2 w.2.1 w.2.2, gD px py u.2.1 u.2.2 w.2.1 w.2.2)
  | _, _ => (0, 1)
theorem gF_at {px py : Int} {zs : List Zp} {i : Nat} {u w : Zp} (h1 : zs[i]? = some u) (h2 : zs[i + 1]? = some w) : gF px py zs i = (gN px py u.2.1 u.2.2 w.2.1 w.2.2, gD px py u.2.1 u.2.2 w.2.1 w.2.2) := by
  unfold gF
  rw [h1, h2]
/-- a gap at an address -/
structure Gp (K : PySem.W.Frag) (H : Hp) (a : Addr) (f : Int × Int) : Prop where
  at_ : SqT K H a [.int f.1, .int f.2]
  pos : 0 < f.2
  one : Nat.gcd f.1.natAbs f.2.natAbs = 1
  bn : f.1.natAbs ≤ 2 ^ 71
  bd : f.2.natAbs ≤ 2 ^ 46
section
variable {K : PySem.W.Frag} {H H' : Hp} {a p s b D : Addr} {f : Int × Int} {o : HO}
theorem Gp.same (e : Same H H') (h : Gp K H a f) : Gp K H' a f := { h with at_ := tSame e h.at_ }
theorem Gp.but (e : But s H H') (S : Strm H s b) (h : Gp K H a f) : Gp K H' a f := { h with at_ := tButS e S h.at_ }
theorem Gp.put (q : ∃ ys, H D = some (.lst ys)) (h : Gp K H a f) : Gp K (upd H D o) a f := { h with at_ := tAt q h.at_ }
/-- the bounds of a gap -/
theorem gap_ok {px py ax ay bx dy : Int} (op : On px py) (oa : On ax ay) (ob : On bx dy) (ne : ¬ (ax = bx ∧ ay = dy)) :
    0 < sq (bx - ax) (dy - ay) ∧ 0 < gD px py ax ay bx dy ∧ Nat.gcd (gN px py ax ay bx dy).natAbs (gD px py ax ay bx dy).natAbs = 1 ∧ (gN px py ax ay bx dy).natAbs ≤ 2 ^ 71 ∧ (gD px py ax ay bx dy).natAbs ≤ 2 ^ 46 := by
  have hs : 0 < sq (bx - ax) (dy - ay) := sq_pos (by omega)
  have vd := ob.d oa
  have ud := op.d oa
  have sl := sq_le vd
  have gl := gap_le ud vd (clamp_le (dot_le ud vd) sl) sl
  have L := low_ok (n := gR px py ax ay bx dy) (d := sq (bx - ax) (dy - ay) * sq (bx - ax) (dy - ay)) (mul_ne hs hs)
  exact ⟨hs, L.pos, L.one, Nat.le_trans L.leN gl.2.2, Nat.le_trans L.leD (mul_le sl sl)⟩
theorem Gp.edge {q : Addr} {px py : Int} {zs : List Zp} {i : Nat} {u w : Zp} (h1 : zs[i]? = some u) (h2 : zs[i + 1]? = some w) (op : On px py) (ou : On u.2.1 u.2.2) (ow : On w.2.1 w.2.2) (ne : ¬ (u.2.1 = w.2.1 ∧ u.2.2 = w.2.2))
    (hq : SqT K H q [.int (gN px py u.2.1 u.2.2 w.2.1 w.2.2), .int (gD px py u.2.1 u.2.2 w.2.1 w.2.2)]) : Gp K H q (gF px py zs i) := by
  obtain ⟨_, k1, k2, k3, k4⟩ := gap_ok op ou ow ne
  rw [gF_at h1 h2]
  exact ⟨hq, k1, k2, k3, k4⟩
/-- the edge between two points, in either order -/
def EdgeAt (K : PySem.W.Frag) (H : Hp) (g : Addr) (u w : Zp) : Prop := SegAt K H g u.1 w.1 u.2.1 u.2.2 w.2.1 w.2.2 ∨ SegAt K H g w.1 u.1 w.2.1 w.2.2 u.2.1 u.2.2
theorem EdgeAt.same {g : Addr} {u w : Zp} (e : Same H H') (h : EdgeAt K H g u w) : EdgeAt K H' g u w := h.imp (fun h => h.same e) fun h => h.same e
theorem SegAt.put {K : PySem.W.Frag} {H : Hp} {D g a c : Addr} {ax ay bx dy : Int} {o : HO} (q : ∃ ys, H D = some (.lst ys)) (h : SegAt K H g a c ax ay bx dy) : SegAt K (upd H D o) g a c ax ay bx dy := { h with g := tAt q h.g, a := tAt q h.a, c := tAt q h.c }
theorem EdgeAt.put {g : Addr} {u w : Zp} (q : ∃ ys, H D = some (.lst ys)) (h : EdgeAt K H g u w) : EdgeAt K (upd H D o) g u w := h.imp (fun h => h.put q) fun h => h.put q
/-- x is a value of which is_segment is b -/
def SgV (K : PySem.W.Frag) (H : Hp) (x : V) (b : Bool) : Prop := ∃ n, Ty K H x n ∧ (n = "tuple" → ∃ (g : Addr) (xs : List V), x = .ref g ∧ SqT K H g xs ∧ ((xs.length ≠ 2 ∧ b = false) ∨
  ∃ u v c d, xs = [u, v] ∧ PV K H u c ∧ PV K H v d ∧ ((c && d) = false ∧ b = false ∨ c = true ∧ d = true ∧ ∃ (i j : Addr) (ax ay bx dy : Int), u = .ref i ∧ v = .ref j ∧ SqT K H i [.int ax, .int ay] ∧ SqT K H j [.int bx, .int dy] ∧ On ax ay ∧ On bx dy ∧ b = ltP ax ay bx dy))) ∧ (n ≠ "tuple" → b = false)
theorem SgV.len {g : Addr} {xs : List V} (h : SqT K H g xs) (hn : xs.length ≠ 2) : SgV K H (.ref g) false := ⟨_, .tup h, fun _ => ⟨g, xs, rfl, h, .inl ⟨hn, rfl⟩⟩, fun z => absurd rfl z⟩
end
end My
namespace Zl
open PySem PySem.Calls PyProof.Rows RZ
abbrev zob (o f : Value) (TI TO : Addr) : Obj := { cls := .type "zip", dict := none, data := .fields #[o, f, .bool false, .ref TI, .ref TO], slots := #[] }
section
variable {prog : Program} {w : World} {A : Around} {E : Value → Shared → Prop} {s : Shared}
theorem alive {a : Addr} {Q : Option Obj → Shared → Prop} (h : Q (s.heap.get? a) s) : wpAny (model prog w) A (loadIfAlive a) Q E s := fun Γ p _ => by
  unfold loadIfAlive
  rw [Sem.wp_loadIfAlive]
  exact h
/-- the tuple that was handed out first is still there -/
theorem held {z TI TO T0 : Addr} {o0 : Obj} {f : Bool} {Q : Bool → Shared → Prop} (isZ : s.heap.get? z = some (zob (rawInt T0) (.bool f) TI TO)) (there : s.heap.get? T0 = some o0)
    (h : ∀ h', h'.get? z = some (zob (rawInt T0) (.bool true) TI TO) → Heap.SameBut z s.heap h' → Q false { s with heap := h' }) : wpAny (model prog w) A (Builtin.SmallTypes.ownedTupleIsFree (.ref z)) Q E s := by
  unfold Builtin.SmallTypes.ownedTupleIsFree
  refine wpAny_bind (wpAny_field isZ rfl (x := rawInt T0) rfl ?_)
  show wpAny _ _ (loadIfAlive ((T0 : Int)).toNat >>= _) _ _ _
  refine wpAny_bind (alive ?_)
  rw [Int.toNat_natCast, there]
  show wpAny _ _ (field (.ref z) 1 >>= _) _ _ _
  refine wpAny_bind (wpAny_field isZ rfl (x := .bool f) rfl ?_)
  cases f with
  | true =>
    show wpAny _ _ (if (Value.bool true != Value.bool true) = true then _ else _) _ _ _
    rw [if_neg (by decide)]
    exact wpAny_pure (h s.heap isZ (Heap.SameBut.refl _ _))
  | false =>
    show wpAny _ _ (if (Value.bool false != Value.bool true) = true then _ else _) _ _ _
    rw [if_pos (by decide)]
    refine wpAny_bind (wpAny_setField_rec isZ (by simp) fun h₁ hz₁ hs₁ => ?_)
    exact wpAny_pure (h h₁ hz₁ hs₁)
theorem later_item {z TI TO T0 i1 i2 l1 l2 : Addr} {k1 k2 : Nat} {xs ys : Array Value} {x y : Value} {o0 : Obj} {f : Bool} {Q : Value → Shared → Prop} (D : ZipApart z TI TO i1 i2 l1 l2)
    (isZ : s.heap.get? z = some (zob (rawInt T0) (.bool f) TI TO)) (there : s.heap.get? T0 = some o0) (two : IsPair s.heap TI (.ref i1) (.ref i2))
    (h1 : s.heap.IsTupleIter i1 l1 k1) (h2 : s.heap.IsTupleIter i2 l2 k2) (hl1 : s.heap.IsTuple l1 xs) (hl2 : s.heap.IsTuple l2 ys) (hx : xs[k1]? = some x) (hy : ys[k2]? = some y)
    (hQ : ∀ h', h'.get? z = some (zob (rawInt T0) (.bool true) TI TO) → h'.IsTupleIter i1 l1 (k1 + 1) → h'.IsTupleIter i2 l2 (k2 + 1) → IsPair h' s.heap.objs.size x y → h'.objs.size = s.heap.objs.size + 1 →
      (∀ c o, c ≠ z → c ≠ i1 → c ≠ i2 → s.heap.get? c = some o → h'.get? c = some o) → Q (.ref s.heap.objs.size) { s with heap := h' }) :
    wpAny (model prog w) A (Builtin.«zip.__next__» ⟨[.ref z], []⟩) (fun fin s' => ∃ v, fin = .done (.ret v) ∧ Q v s') E s := by
  show wpAny _ _ (field (.ref z) 2 >>= _) _ _ _
  refine wpAny_bind (wpAny_field isZ rfl (x := .bool false) rfl (?_))
  show wpAny _ _ (field (.ref z) 3 >>= _) _ _ _
  refine wpAny_bind (wpAny_field isZ rfl (x := .ref TI) rfl (?_))
  refine wpAny_bind (wpAny_seqItems two rfl (?_))
  show wpAny _ _ (Builtin.SmallTypes.ownedTupleIsFree (.ref z) >>= _) _ _ _
  refine wpAny_bind (held isZ there fun g₁ z₁ e₁ => ?_)
  simp only [Bool.false_eq_true, if_false]
  refine wpAny_bind ?_
  rw [← Array.forIn_toList]
  simp only [List.forIn_cons, List.forIn_nil]
  refine wpAny_bind (wpAny_bind (wpAny_holding ?_))
  show wpAny _ _ (Builtin.SmallTypes.nextOf (.ref i1) >>= _) _ _ _
  refine wpAny_bind (nextOf_tuple_item (h1.extBut e₁.extBut D.i1z) (hl1.extBut e₁.extBut D.l1z) hx fun g₂ a₂ e₂ => wpAny_pure (?_))
  refine wpAny_pure (?_)
  refine wpAny_bind (wpAny_bind (wpAny_holding ?_))
  show wpAny _ _ (Builtin.SmallTypes.nextOf (.ref i2) >>= _) _ _ _
  refine wpAny_bind (nextOf_tuple_item ((h2.extBut e₁.extBut D.i2z).extBut e₂.extBut D.i12.symm) ((hl2.extBut e₁.extBut D.l2z).extBut e₂.extBut D.l2i1) hy fun g₃ b₃ e₃ => wpAny_pure (?_))
  refine wpAny_pure (?_)
  refine wpAny_pure (?_)
  show wpAny _ _ (newTuple [x, y] >>= _) _ _ _
  have size : g₃.objs.size = s.heap.objs.size := by rw [e₃.1, e₂.1, e₁.1]
  have kept : ∀ c o, c ≠ z → c ≠ i1 → c ≠ i2 → s.heap.get? c = some o → g₃.get? c = some o := fun c o n1 n2 n3 q => e₃.extBut _ _ n3 (e₂.extBut _ _ n2 (e₁.extBut _ _ n1 q))
  have z₃ : g₃.get? z = some (zob (rawInt T0) (.bool true) TI TO) := e₃.extBut _ _ D.i2z.symm (e₂.extBut _ _ D.i1z.symm z₁)
  have up : ∀ c o, g₃.get? c = some o → (g₃.push { cls := .type "tuple", data := .seq #[x, y] }).get? c = some o := fun c o q => Heap.get?_push_of_some _ q
  refine wpAny_bind (wpAny_newTuple (wpAny_pure ⟨_, rfl, ?_⟩))
  show Q (.ref g₃.objs.size) { s with heap := g₃.push { cls := .type "tuple", data := .seq #[x, y] } }
  rw [size]
  refine hQ _ (up _ _ z₃) ((a₂.extBut e₃.extBut D.i12).at fun o q => up _ o q) (b₃.at fun o q => up _ o q) ?_ (by rw [Heap.size_push, size]) fun c o n1 n2 n3 q => up _ _ (kept c o n1 n2 n3 q)
  rw [← size]
  exact Heap.get?_push_size _ rfl
theorem later_end {z TI TO T0 i1 i2 l1 l2 : Addr} {k1 : Nat} {xs : Array Value} {o0 : Obj} {f : Bool} {Q : PySem.Fin → Shared → Prop} (hh : A.handled = none) (D : ZipApart z TI TO i1 i2 l1 l2)
    (isZ : s.heap.get? z = some (zob (rawInt T0) (.bool f) TI TO)) (there : s.heap.get? T0 = some o0) (two : IsPair s.heap TI (.ref i1) (.ref i2))
    (h1 : s.heap.IsTupleIter i1 l1 k1) (hl1 : s.heap.IsTuple l1 xs) (hx : xs[k1]? = none)
    (hE : ∀ h' e, (∀ c o, c ≠ z → c ≠ i1 → s.heap.get? c = some o → h'.get? c = some o) → (∃ o, h'.get? e = some o ∧ o.cls = .type "StopIteration") → E (.ref e) { s with heap := h' }) :
    wpAny (model prog w) A (Builtin.«zip.__next__» ⟨[.ref z], []⟩) Q E s := by
  show wpAny _ _ (field (.ref z) 2 >>= _) _ _ _
  refine wpAny_bind (wpAny_field isZ rfl (x := .bool false) rfl (?_))
  show wpAny _ _ (field (.ref z) 3 >>= _) _ _ _
  refine wpAny_bind (wpAny_field isZ rfl (x := .ref TI) rfl (?_))
  refine wpAny_bind (wpAny_seqItems two rfl (?_))
  show wpAny _ _ (Builtin.SmallTypes.ownedTupleIsFree (.ref z) >>= _) _ _ _
  refine wpAny_bind (held isZ there fun g₁ z₁ e₁ => ?_)
  simp only [Bool.false_eq_true, if_false]
  refine wpAny_bind ?_
  rw [← Array.forIn_toList]
  simp only [List.forIn_cons, List.forIn_nil]
  refine wpAny_bind (wpAny_bind (wpAny_holding ?_))
  show wpAny _ _ (Builtin.SmallTypes.nextOf (.ref i1) >>= _) _ _ _
  exact wpAny_bind (nextOf_tuple_end hh (h1.extBut e₁.extBut D.i1z) (hl1.extBut e₁.extBut D.l1z) hx fun g₂ e e₂ he => hE g₂ e (fun c o n1 n2 q => e₂ _ _ n2 (e₁.extBut _ _ n1 q)) he)
/-- zip's next, by pyNext -/
theorem pyNext_later_item {z TI TO T0 i1 i2 l1 l2 : Addr} {k1 k2 : Nat} {xs ys : Array Value} {x y : Value} {o0 : Obj} {f : Bool} {Q : Option Value → Shared → Prop} (D : ZipApart z TI TO i1 i2 l1 l2)
    (isZ : s.heap.get? z = some (zob (rawInt T0) (.bool f) TI TO)) (there : s.heap.get? T0 = some o0) (two : IsPair s.heap TI (.ref i1) (.ref i2))
    (h1 : s.heap.IsTupleIter i1 l1 k1) (h2 : s.heap.IsTupleIter i2 l2 k2) (hl1 : s.heap.IsTuple l1 xs) (hl2 : s.heap.IsTuple l2 ys) (hx : xs[k1]? = some x) (hy : ys[k2]? = some y)
    (hQ : ∀ h', h'.get? z = some (zob (rawInt T0) (.bool true) TI TO) → h'.IsTupleIter i1 l1 (k1 + 1) → h'.IsTupleIter i2 l2 (k2 + 1) → IsPair h' s.heap.objs.size x y → h'.objs.size = s.heap.objs.size + 1 →
      (∀ c o, c ≠ z → c ≠ i1 → c ≠ i2 → s.heap.get? c = some o → h'.get? c = some o) → Q (some (.ref s.heap.objs.size)) { s with heap := h' }) :
    wpAny (model prog w) A (pyNext (.ref z)) Q E s := by
  have isT : s.TypeIs (.ref z) "zip" := ⟨_, isZ, rfl⟩
  unfold pyNext
  exact wpAny_bind (wpAny_attempt (wpAny_callSpecial?_slot (name := Str.ofString "__next__") isT F.slot_zip_next (wpAny_call_entry F.slot_zip_next isT F.entry_zip_next
    (later_item D isZ there two h1 h2 hl1 hl2 hx hy fun h' a1 a2 a3 a4 a5 a6 => wpAny_pure (hQ h' a1 a2 a3 a4 a5 a6)) (F.args_zip_next_1 _))))
theorem pyNext_later_end {z TI TO T0 i1 i2 l1 l2 : Addr} {k1 : Nat} {xs : Array Value} {o0 : Obj} {f : Bool} {Q : Option Value → Shared → Prop} (hh : A.handled = none) (D : ZipApart z TI TO i1 i2 l1 l2)
    (isZ : s.heap.get? z = some (zob (rawInt T0) (.bool f) TI TO)) (there : s.heap.get? T0 = some o0) (two : IsPair s.heap TI (.ref i1) (.ref i2))
    (h1 : s.heap.IsTupleIter i1 l1 k1) (hl1 : s.heap.IsTuple l1 xs) (hx : xs[k1]? = none)
    (hQ : ∀ h', (∀ c o, c ≠ z → c ≠ i1 → s.heap.get? c = some o → h'.get? c = some o) → Q none { s with heap := h' }) : wpAny (model prog w) A (pyNext (.ref z)) Q E s := by
  have isT : s.TypeIs (.ref z) "zip" := ⟨_, isZ, rfl⟩
  unfold pyNext
  refine wpAny_bind (wpAny_attempt (wpAny_callSpecial?_slot (name := Str.ofString "__next__") isT F.slot_zip_next (wpAny_call_entry F.slot_zip_next isT F.entry_zip_next
    (later_end hh D isZ there two h1 hl1 hx fun h' e kept isStop => ?_) (F.args_zip_next_1 _))))
  obtain ⟨o, ho, hc⟩ := isStop
  exact wpAny_bind (wpAny_isInstance (T := "StopIteration") (b := true) ⟨o, ho, hc⟩ isSubtype_stop (wpAny_pure (hQ _ kept)))
end
end Zl
namespace Zl
open PySem PySem.Calls PyProof.Rows RZ L2
theorem zip_no_len : typeLookup (.type "zip") "__len__" = pure none := by rw [typeLookup_type, builtinLookup_eq_fast]; kernel_rfl
theorem zip_no_hint : typeLookup (.type "zip") "__length_hint__" = pure none := by rw [typeLookup_type, builtinLookup_eq_fast]; kernel_rfl
section
variable {X : L2.Cx} {pins : List (Addr × Obj)} {σ : L2.St}
/-- zip's five objects, k pairs handed out; T0: the first of them -/
def Zst (h : Heap) (z TI TO i1 i2 a b : Addr) (ps : List Addr) : Prop :=
  IsPair h TI (.ref i1) (.ref i2) ∧ h.IsTupleIter i1 a ps.length ∧ h.IsTupleIter i2 b ps.length ∧
  (∃ u v, IsPair h TO u v) ∧ match ps with
  | [] => IsZip h z TI TO .none
  | p :: _ => ∃ f, h.get? z = some (zob (rawInt p) (.bool f) TI TO)
theorem drain {z TI TO i1 i2 a b S : Addr} {xs ys : List V} {H0 : Hp} {B : Around} {R : Result → Shared → Prop} {res : Value} (hh : B.handled = none) (D : ZipApart z TI TO i1 i2 a b) (hS : S ∉ [z, TI, TO, i1, i2, a, b]) (hl : xs.length = ys.length) (hz : xs.length ≤ 1000)
    (hend : ∀ s' H' (ps : List Addr) (acc : Array Value) c, ps.length = xs.length → Inv X pins σ H' s' → FpOk X pins H' S → s'.heap.get? S = some (lstObj acc c) → Vals (ps.map V.ref) acc.toList → (∀ c o, H0 c = some o → H' c = some o) →
      (∀ (i : Nat) p x y, ps[i]? = some p → xs[i]? = some x → ys[i]? = some y → H' p = some (.tup [x, y])) → R (.ok (.ret res)) s') :
    ∀ (m : Nat) (s : Shared) (H : Hp) (ps : List Addr) (acc : Array Value) c, ps.length + m = xs.length → Inv X pins σ H s → (∀ c ∈ [z, TI, TO, i1, i2, S], FpOk X pins H c) → SqT X.K H a xs → SqT X.K H b ys → Zst s.heap z TI TO i1 i2 a b ps → s.heap.get? S = some (lstObj acc c) → Vals (ps.map V.ref) acc.toList → (∀ c o, H0 c = some o → H c = some o) →
      (∀ (i : Nat) p x y, ps[i]? = some p → xs[i]? = some x → ys[i]? = some y → H p = some (.tup [x, y])) → codeAny (model X.prog X.w) B (.builtin "list.extend.loop" ⟨[.ref S, .ref z, res], []⟩) R s := by
  have Sz : S ≠ z := fun e => hS (by simp [e])
  have STI : S ≠ TI := fun e => hS (by simp [e])
  have STO : S ≠ TO := fun e => hS (by simp [e])
  have Si1 : S ≠ i1 := fun e => hS (by simp [e])
  have Si2 : S ≠ i2 := fun e => hS (by simp [e])
  intro m
  induction m with
  | zero =>
    intro s H ps acc c count I fp hx hy st here rv old pairs
    refine codeAny_builtin F.entry_extend_loop ?_
    rw [Around.under_plainId F.plain_extend_loop _]
    show wpAny _ B.in1 (pyNext (.ref z) >>= _) _ _ s
    obtain ⟨its, rx, tx, _⟩ := I.tuple hx
    obtain ⟨its2, ry, ty, _⟩ := I.tuple hy
    have lx := rx.length
    have none_ : its.toArray[ps.length]? = none := by simp; omega
    obtain ⟨tI, a1, a2, ⟨u', v', tO⟩, own⟩ := st
    have fin : ∀ h', (∀ c o, c ≠ z → c ≠ TO → c ≠ i1 → c ≠ i2 → s.heap.get? c = some o → h'.get? c = some o) → R (.ok (.ret res)) { s with heap := h' } := fun h' k => by
      refine hend _ H ps acc c (by omega) (I.turnedL (t' := s.toks) (ch := [z, TI, TO, i1, i2]) (fun c o hc q => ?_) fun c hc => fp c ?_) (fp S (by simp)) (k S _ Sz STO Si1 Si2 here) rv old pairs
      · simp only [List.mem_cons, List.not_mem_nil, or_false, not_or] at hc
        exact k c o hc.1 hc.2.2.1 hc.2.2.2.1 hc.2.2.2.2 q
      · simp only [List.mem_cons, List.not_mem_nil, or_false] at hc ⊢
        rcases hc with hc | hc | hc | hc | hc <;> simp [hc]
    cases ps with
    | nil =>
      exact wpAny_bind (pyNext_zipT_end hh D own tI tO a1 a2 tx ty (.inl none_) fun h' k => wpAny_pure (fin h' k))
    | cons p qs =>
      obtain ⟨f, isZ⟩ := own
      have x0 : ∃ x, xs[0]? = some x := ⟨_, List.getElem?_eq_getElem (by simp at count; omega)⟩
      have y0 : ∃ y, ys[0]? = some y := ⟨_, List.getElem?_eq_getElem (by simp at count; omega)⟩
      obtain ⟨x0, x0'⟩ := x0
      obtain ⟨y0, y0'⟩ := y0
      obtain ⟨_, _, ⟨o0, there, _⟩, _⟩ := I.tuple (SqT.of (K := X.K) (pairs 0 p x0 y0 rfl x0' y0'))
      exact wpAny_bind (pyNext_later_end hh D isZ there tI a1 tx none_ fun h' k => wpAny_pure (fin h' fun c o n1 n2 n3 n4 q => k c o n1 n3 q))
  | succ m ih =>
    intro s H ps acc c count I fp hx hy st here rv old pairs
    refine codeAny_builtin F.entry_extend_loop ?_
    rw [Around.under_plainId F.plain_extend_loop _]
    show wpAny _ B.in1 (pyNext (.ref z) >>= _) _ _ s
    obtain ⟨its, rx, tx, _⟩ := I.tuple hx
    obtain ⟨its2, ry, ty, _⟩ := I.tuple hy
    have hx1 : xs[ps.length]? = some xs[ps.length] := List.getElem?_eq_getElem (by omega)
    have hy1 : ys[ps.length]? = some ys[ps.length] := List.getElem?_eq_getElem (by omega)
    obtain ⟨u, hu, ru⟩ := rx.get hx1
    obtain ⟨u2, hu2, ru2⟩ := ry.get hy1
    obtain ⟨tI, a1, a2, ⟨u', v', tO⟩, own⟩ := st
    have la : acc.size = ps.length := by
      have := rv.length
      rw [List.length_map, Array.length_toList] at this
      exact this.symm
    have hT : H s.heap.objs.size = none := I.hok.fresh (Nat.le_refl _)
    have zlt : z < s.heap.objs.size := by
      cases ps with
      | nil => exact Heap.lt_size own
      | cons p qs => obtain ⟨f, q⟩ := own; exact Heap.lt_size q
    have i1lt : i1 < s.heap.objs.size := by obtain ⟨_, q, _⟩ := a1; exact Heap.lt_size q
    have i2lt : i2 < s.heap.objs.size := by obtain ⟨_, q, _⟩ := a2; exact Heap.lt_size q
    have old_ : ∀ c ∈ [z, TI, TO, i1, i2, S], c < s.heap.objs.size := fun c hc => by
      simp only [List.mem_cons, List.not_mem_nil, or_false] at hc
      rcases hc with rfl | rfl | rfl | rfl | rfl | rfl
      · exact zlt
      · exact Heap.lt_size tI
      · exact Heap.lt_size tO
      · exact i1lt
      · exact i2lt
      · exact Heap.lt_size here
    have on : ∀ (h' : Heap) (p0 : Addr) (f : Bool), ((ps = [] ∧ p0 = s.heap.objs.size) ∨ ps.head? = some p0) → h'.get? z = some (zob (rawInt p0) (.bool f) TI TO) → (∃ u v, IsPair h' TO u v) → h'.IsTupleIter i1 a (ps.length + 1) → h'.IsTupleIter i2 b (ps.length + 1) → IsPair h' s.heap.objs.size u u2 →
        (∀ c o, c ≠ z → c ≠ TO → c ≠ i1 → c ≠ i2 → s.heap.get? c = some o → h'.get? c = some o) →
        wpAny (model X.prog X.w) B.in1 (updateSeq S (·.push (.ref s.heap.objs.size)) >>= fun _ => again (.builtin "list.extend.loop" ⟨[.ref S, .ref z, res], []⟩)) (fun fin s' => match fin with
          | .done f => R (.ok f) s'
          | .again c' => c'.quiet = true ∧ codeAny (model X.prog X.w) B c' R s') (fun e s' => R (.error e) s') { s with heap := h' } := by
      intro h' p0 f first isZ tO' b1 b2 pair kept
      have new : ObjOk X.prog X.w (upd H s.heap.objs.size (.tup [xs[ps.length], ys[ps.length]])) h' s.heap.objs.size (.tup [xs[ps.length], ys[ps.length]]) := ⟨by show 2 ≤ sizeLine; decide, [u, u2], .cons ru (.cons ru2 .nil), ⟨_, pair, rfl, _, rfl⟩⟩
      have I1 : Inv X pins σ (upd H s.heap.objs.size (.tup [xs[ps.length], ys[ps.length]])) { s with heap := h' } := I.turnedNew (t' := s.toks) (ch := [z, TI, TO, i1, i2]) (fun c o hc q => by
        simp only [List.mem_cons, List.not_mem_nil, or_false, not_or] at hc
        exact kept c o hc.1 hc.2.2.1 hc.2.2.2.1 hc.2.2.2.2 q) (fun c hc => fp c (by
        simp only [List.mem_cons, List.not_mem_nil, or_false] at hc ⊢
        rcases hc with hc | hc | hc | hc | hc <;> simp [hc])) (Nat.le_refl _) new
      have here' := kept S _ Sz STO Si1 Si2 here
      have fp' : ∀ c ∈ [z, TI, TO, i1, i2, S], FpOk X pins (upd H s.heap.objs.size (.tup [xs[ps.length], ys[ps.length]])) c := fun c hc => ⟨by rw [upd_ne (Nat.ne_of_lt (old_ c hc))]; exact (fp c hc).1, (fp c hc).2⟩
      have keep3 : ∀ c o, c ≠ S → h'.get? c = some o → (h'.update S (Obj.mapSeq (·.push (.ref s.heap.objs.size)))).get? c = some o := fun c o n q => (Heap.get?_update_other _ _ (Ne.symm n)).trans q
      have I2 : Inv X pins σ (upd H s.heap.objs.size (.tup [xs[ps.length], ys[ps.length]])) { s with heap := h'.update S (Obj.mapSeq (·.push (.ref s.heap.objs.size))) } := Inv.turnedL (s := { s with heap := h' }) (t' := s.toks) (ch := [S]) I1 (fun c o hc q => keep3 c o (by simpa using hc) q) fun c hc => fp' c (by rw [List.mem_singleton.mp hc]; simp)
      refine wpAny_bind (wpAny_updateSeq here' rfl (wpAny_pure ⟨plainId_quiet F.plain_extend_loop _, ?_⟩) (by show acc.size ≤ sizeLine; rw [la]; exact Nat.le_trans (show ps.length ≤ 1000 by omega) (by decide)) (by show (acc.push _).size ≤ sizeLine + 1; rw [Array.size_push, la]; exact Nat.le_trans (show ps.length + 1 ≤ 1001 by omega) (by decide)))
      refine ih _ _ (ps ++ [s.heap.objs.size]) (acc.push (.ref s.heap.objs.size)) _ (by simp; omega) I2 fp' (My.tOver hT hx) (My.tOver hT hy) ⟨keep3 _ _ STI.symm (kept _ _ D.TIz D.TITO D.TIi1 D.TIi2 tI), ?_, ?_, ?_, ?_⟩ (Heap.get?_update_self _ here' rfl) ?_ (fun c o q => ?_) fun i p x y e1 e2 e3 => ?_
      · rw [List.length_append]
        exact b1.at fun o q => keep3 _ o Si1.symm q
      · rw [List.length_append]
        exact b2.at fun o q => keep3 _ o Si2.symm q
      · obtain ⟨u', v', q⟩ := tO'
        exact ⟨u', v', keep3 _ _ STO.symm q⟩
      · cases ps with
        | nil =>
          rcases first with ⟨_, e⟩ | e
          · subst e
            exact ⟨f, keep3 _ _ Sz.symm isZ⟩
          · cases e
        | cons p qs =>
          rcases first with ⟨e, _⟩ | e
          · cases e
          · injection e with e
            subst e
            exact ⟨f, keep3 _ _ Sz.symm isZ⟩
      · rw [Array.toList_push, List.map_append]
        exact rv.append (.cons rfl .nil)
      · rw [upd_ne (ne_of_none (old c o q) hT)]
        exact old c o q
      · by_cases q : i < ps.length
        · rw [List.getElem?_append_left q] at e1
          have := pairs i p x y e1 e2 e3
          rw [upd_ne (ne_of_none this hT)]
          exact this
        · rw [List.getElem?_append_right (by omega)] at e1
          have e4 : i = ps.length := by
            have := (List.getElem?_eq_some_iff.mp e1).1
            simp at this
            omega
          subst e4
          rw [Nat.sub_self] at e1
          cases e1
          rw [hx1] at e2
          rw [hy1] at e3
          cases e2
          cases e3
          exact upd_same
    cases ps with
    | nil => exact wpAny_bind (pyNext_zipT_item D own tI tO a1 a2 tx ty (by simpa using hu) (by simpa using hu2) fun h' z' o' b1 b2 pair _ kept => on h' _ false (.inl ⟨rfl, rfl⟩) z' ⟨_, _, o'⟩ b1 b2 pair kept)
    | cons p qs =>
      obtain ⟨f, isZ⟩ := own
      obtain ⟨x0, x0'⟩ : ∃ x, xs[0]? = some x := ⟨_, List.getElem?_eq_getElem (by omega)⟩
      obtain ⟨y0, y0'⟩ : ∃ y, ys[0]? = some y := ⟨_, List.getElem?_eq_getElem (by omega)⟩
      obtain ⟨_, _, ⟨o0, there, _⟩, _⟩ := I.tuple (SqT.of (K := X.K) (pairs 0 p x0 y0 rfl x0' y0'))
      exact wpAny_bind (pyNext_later_item D isZ there tI a1 a2 tx ty (by simpa using hu) (by simpa using hu2) fun h' z' b1 b2 pair _ kept => on h' p true (.inr rfl) z' ⟨_, _, kept _ _ D.TOz D.TOi1 D.TOi2 tO⟩ b1 b2 pair fun c o n1 _ n3 n4 q => kept c o n1 n3 n4 q)
/-- a list of ours that was not followed is followed now -/
theorem tracked {S : Addr} {H : Hp} {s : Shared} {acc : Array Value} {c : Nat} {out : List V} (I : Inv X pins σ H s) (f : FpOk X pins H S) (e : s.heap.get? S = some (lstObj acc c)) (r : Vals out acc.toList) (size : out.length ≤ sizeLine) : Inv X pins σ (upd H S (.lst out)) s := by
  have free := f.1
  refine I.call' (ch := [S]) rfl ⟨fun b o q _ _ _ => q, fun b o q _ _ _ => ⟨o.slots, q⟩, fun b o _ n hx => ?_, fun b o q _ => ⟨o, q⟩, fun b xs q => ?_, fun b o u q => ?_, fun b ps q => ⟨#[], ?_⟩⟩ (fun b u q => ?_) I.bare fun b hb => ?_
  · rw [upd_ne (by simpa using hx)]; exact n
  · rw [upd_ne (ne_of_none q free)]; exact q
  · rw [upd_ne (ne_of_none q free)]; exact q
  · rw [upd_ne (ne_of_none q free), q]; simp
  · by_cases same : b = S
    · subst same
      rw [upd_same] at q
      cases q
      exact ⟨size, acc.toList, c, r, by rw [e]⟩
    · rw [upd_ne same] at q
      exact (I.hok b u q).stay (fun _ _ _ k => k) (fun d k => by rw [upd_ne (ne_of_none k free)]; exact k) (fun d xs k => by rw [upd_ne (ne_of_none k free)]; exact k)
  · rw [List.mem_singleton.mp hb]
    exact ⟨f.2.2.2.1, f.2.1, f.2.2.2.2.1, f.2.2.2.2.2⟩
theorem list_of_zip {H : Hp} {s : Shared} {z TI TO i1 i2 a b : Addr} {xs ys : List V} {Q : VK} (hh : X.A.handled = none) (I : Inv X pins σ H s) (D : ZipApart z TI TO i1 i2 a b) (fp : ∀ c ∈ [z, TI, TO, i1, i2], FpOk X pins H c) (hx : SqT X.K H a xs) (hy : SqT X.K H b ys) (hl : xs.length = ys.length) (hz : xs.length ≤ 1000)
    (st : Zst s.heap z TI TO i1 i2 a b [])
    (goal : ∀ S (ps : List Addr) H', ps.length = xs.length → (∀ c o, H c = some o → H' c = some o) → (∀ (i : Nat) p x y, ps[i]? = some p → xs[i]? = some x → ys[i]? = some y → H' p = some (.tup [x, y])) → H' S = none → Q (.ref S) (upd H' S (.lst (ps.map V.ref)))) :
    wpAny (model X.prog X.w) X.A (call (.type "list") [.ref z]) (EP X pins σ Q) X.xe s := by
  obtain ⟨tI, a1, a2, ⟨u', v', tO⟩, isZ⟩ := id st
  have zlt : z < s.heap.objs.size := Heap.lt_size isZ
  have Sz : s.heap.objs.size ≠ z := Nat.ne_of_gt zlt
  refine callType_codes (Q₁ := fun made s₁ => made = .ref s.heap.objs.size ∧ s₁ = { s with heap := s.heap.push { cls := .type "list", data := .seq #[] } }) F.called_list (F.typeCall_list_1 _) F.entry_list_init (code_list_new _ (⟨rfl, rfl⟩)) fun made s₁ told => ?_
  obtain ⟨rfl, rfl⟩ := told
  have born : (s.heap.push { cls := .type "list", data := .seq #[] }).get? s.heap.objs.size = some { cls := .type "list", data := .seq #[] } := Heap.get?_push_size _ (rfl)
  refine ⟨⟨_, born, rfl⟩, F.args_list_init_2 _ _, ?_⟩
  show wpAny _ X.A.in1.in1 (do let before ← Builtin.List.listItems (.ref s.heap.objs.size); Builtin.List.listUpdate (.ref s.heap.objs.size) (fun _ => #[]); letGo before.toList.reverse; Builtin.List.listExtendWith (.ref s.heap.objs.size) (.ref z) .none) _ _ _
  refine wpAny_bind (?_)
  unfold Builtin.List.listItems
  refine wpAny_bind (wpAny_seqItems born rfl (wpAny_pure (?_)))
  show wpAny _ X.A.in1.in1 (updateSeq s.heap.objs.size (fun _ => #[]) >>= fun _ => letGo (#[] : Array Value).toList.reverse >>= fun _ => Builtin.List.listExtendWith (.ref s.heap.objs.size) (.ref z) .none) _ _ _
  refine wpAny_bind (wpAny_updateSeq born rfl (?_))
  have born2 := Heap.get?_update_self (Obj.mapSeq (fun _ => (#[] : Array Value))) born (rfl)
  refine wpAny_bind (wpAny_letGo (?_))
  unfold Builtin.List.listExtendWith
  have over : ∀ (h : Heap) (f : Obj → Obj), (∀ c o, s.heap.get? c = some o → h.get? c = some o) → ∀ c o, s.heap.get? c = some o → (h.update s.heap.objs.size f).get? c = some o := fun h f k c o e =>
    (Heap.get?_update_other _ _ (Ne.symm (Nat.ne_of_lt (Heap.lt_size e)))).trans (k c o e)
  have kept1 : ∀ c o, s.heap.get? c = some o → (s.heap.push { cls := .type "list", data := .seq #[] }).get? c = some o := fun c o e => Heap.get?_push_of_some _ (e)
  have kept2 := over _ (Obj.mapSeq (fun _ => (#[] : Array Value))) kept1
  have isT : ∀ {h : Heap}, (∀ c o, s.heap.get? c = some o → h.get? c = some o) → ({ s with heap := h } : Shared).TypeIs (.ref z) "zip" := fun {h} k => ⟨_, k _ _ isZ, rfl⟩
  refine wpAny_bind (wpAny_typeOf (isT kept2) (?_))
  have no1 : Builtin.List.listSameRef (.ref s.heap.objs.size) (.ref z) = false := by simp [Builtin.List.listSameRef, Sz]
  have no2 : (Value.type "zip" == Value.type "list") = false := by decide
  have no3 : (Value.type "zip" == Value.type "tuple") = false := by decide
  simp only [no1, no2, no3, Bool.or_false, Bool.false_eq_true, if_false]
  refine wpAny_bind (wpAny_pyIter_zip (s := { s with heap := _ }) (kept2 _ _ isZ) (?_))
  refine wpAny_bind (wpAny_holding (?_))
  unfold Builtin.List.listLengthHint
  refine wpAny_bind (wpAny_specialOf (isT kept2) zip_no_len (?_))
  show wpAny _ X.A.in1.in1 (specialOf (Value.ref z) (Str.ofString "__length_hint__") >>= _) _ _ _
  refine wpAny_bind (wpAny_specialOf (isT kept2) zip_no_hint (?_))
  refine wpAny_pure (?_)
  show wpAny _ X.A.in1.in1 (rule "list.extend.makes-room" >>= fun _ => Builtin.List.listTouch (.ref s.heap.objs.size) >>= fun _ => again (.builtin "list.extend.loop" ⟨[.ref s.heap.objs.size, .ref z, .none], []⟩)) _ _ _
  refine wpAny_bind (wpAny_rule (?_))
  refine wpAny_bind (?_)
  show wpAny _ X.A.in1.in1 (updateSeq s.heap.objs.size (·.push .none) >>= fun _ => updateSeq s.heap.objs.size (·.pop)) _ _ _
  refine wpAny_bind (wpAny_updateSeq born2 rfl (?_))
  have born3 := Heap.get?_update_self (Obj.mapSeq (·.push Value.none)) born2 (rfl)
  refine wpAny_updateSeq (hz := by seq_fits) born3 rfl (?_)
  have born4 := Heap.get?_update_self (Obj.mapSeq (·.pop)) born3 (rfl)
  have kept4 := over _ (Obj.mapSeq (·.pop)) (over _ (Obj.mapSeq (·.push Value.none)) kept2)
  refine wpAny_pure ⟨plainId_quiet F.plain_extend_loop _, ?_⟩
  have newS : FpOk X pins H s.heap.objs.size := I.fpOk (Nat.le_refl _) (I.hok.fresh (Nat.le_refl _))
  have ofS : ∀ c o, s.heap.get? c = some o → s.heap.objs.size ≠ c := fun c o q => Nat.ne_of_gt (Heap.lt_size q)
  have ofT : ∀ {t : Addr} {ws : List V}, SqT X.K H t ws → s.heap.objs.size ≠ t := fun {t ws} q => by
    obtain ⟨_, _, p, _⟩ := I.tuple q
    exact Nat.ne_of_gt p.lt
  refine drain (X := X) (pins := pins) (σ := σ) (S := s.heap.objs.size) (H0 := H) (B := X.A.in1) hh D ?_ hl hz (fun s' H' ps acc c e1 I' fS e2 rv old pairs => ⟨rfl, .ref s.heap.objs.size, _, tracked I' fS e2 rv (by rw [List.length_map, e1]; exact Nat.le_trans hz (by decide)), rfl, goal _ ps H' e1 old pairs fS.1⟩) xs.length _ H [] _ _ (by simp) (I.kept (t' := s.toks) kept4) ?_ hx hy ⟨kept4 _ _ tI, ?_, ?_, ⟨u', v', kept4 _ _ tO⟩, kept4 _ _ isZ⟩ born4 .nil (fun _ _ q => q) (fun i p x y q => by cases q)
  · simp only [List.mem_cons, List.not_mem_nil, or_false, not_or]
    obtain ⟨_, q1, _⟩ := a1
    obtain ⟨_, q2, _⟩ := a2
    exact ⟨Sz, ofS _ _ tI, ofS _ _ tO, ofS _ _ q1, ofS _ _ q2, ofT hx, ofT hy⟩
  · intro c hc
    simp only [List.mem_cons, List.not_mem_nil, or_false] at hc
    rcases hc with rfl | rfl | rfl | rfl | rfl | rfl
    · exact fp _ (by simp)
    · exact fp _ (by simp)
    · exact fp _ (by simp)
    · exact fp _ (by simp)
    · exact fp _ (by simp)
    · exact newS
  · exact a1.at fun o q => kept4 _ o q
  · exact a2.at fun o q => kept4 _ o q
end
end Zl
namespace Zl
open PySem PySem.Calls PyProof.Rows RZ L2
/-- list(zip(t, u)), two tuples of one length: the pairs are new -/
def tListZip (K : PySem.W.Frag) (ta : TA) : TE := fun σ H Q => ta σ H fun vs H1 => ∃ a b xs ys, vs = [.ref a, .ref b] ∧ SqT K H1 a xs ∧ SqT K H1 b ys ∧ xs.length = ys.length ∧ xs.length ≤ 1000 ∧
  ∀ S (ps : List Addr) H', ps.length = xs.length → (∀ c o, H1 c = some o → H' c = some o) → (∀ (i : Nat) p x y, ps[i]? = some p → xs[i]? = some x → ys[i]? = some y → H' p = some (.tup [x, y])) → H' S = none → Q (.ref S) (upd H' S (.lst (ps.map V.ref)))
section
variable {X : L2.Cx}
theorem pe_listZip {e e2 : Expr} {ta : TA} {p p0 pos pos0 : Pos} (hc : X.calm = true) (hgl : Gl X "list") (hml : X.mg "list" = none) (hg : Gl X "zip") (hm : X.mg "zip" = none) (ha : PA X [e, e2] ta)
    (he : starEach [.Call (.Name "zip" p) [e, e2] [] pos] X.env = (false, eval (.Call (.Name "zip" p) [e, e2] [] pos) X.env) :: starEach [] X.env := by rfl)
    (hs : starEach [e, e2] X.env = (false, eval e X.env) :: starEach [e2] X.env := by rfl) (hpl : (backTo pos (starEach [e2] X.env)).any (·.1) = false := by rfl) :
    PE X (.Call (.Name "list" p0) [.Call (.Name "zip" p) [e, e2] [] pos] [] pos0) (tListZip X.K ta) := by
  refine ⟨fun pins s σ H Q I h => ?_⟩
  have isList : bootBuiltins "list" = some (.type "list") := by decide +kernel
  refine wpAny_Call_Name_kw (ld_blt I hgl hml isList ?_ (by decide) (by decide))
  refine PyProof.Rows.callWith_type1 ?_ he (by rfl)
  rw [he]
  show wpAny _ _ (spliced ((false, eval (.Call (.Name "zip" p) [e, e2] [] pos) X.env) :: backTo pos0 (starEach [] X.env))) _ _ s
  refine Calls.spliced_cons ?_
  refine wpAny_Call_Name_kw (ld_blt I hg hm PyProof.Rows.boot_zip ?_ (by decide) (by decide))
  refine PyProof.Rows.callWith_type1 (thn (ha.run pos pins s σ H _ I h) fun us s1 ⟨vs, H1, I1, r1, q1⟩ => ?_) hs hpl
  obtain ⟨a, b, xs, ys, ex, hx, hy, hl, hz, goal⟩ := q1
  subst ex
  cases r1 with
  | cons r rr =>
    cases rr with
    | cons r' rr =>
      cases rr
      cases r
      cases r'
      obtain ⟨its, rv, p1, _⟩ := I1.tuple hx
      obtain ⟨its2, rv2, p2, _⟩ := I1.tuple hy
      obtain ⟨o1, ho1, _⟩ := id p1
      obtain ⟨o2, ho2, _⟩ := id p2
      refine call_zipT (show s1.heap.IsTuple a its.toArray from p1) (show s1.heap.IsTuple b its2.toArray from p2) fun h' z tI tO a1 a2 hsz hk => ?_
      refine Calls.spliced_nil ?_
      have I2 : Inv X pins σ H1 { s1 with heap := h' } := I1.kept (t' := s1.toks) hk
      refine list_of_zip (s := { s1 with heap := h' }) (I1.ok.hd hc) I2 (PySem.W.ktu_apart s1.heap.objs.size a b (Heap.lt_size ho1) (Heap.lt_size ho2)) (fun c hcm => ?_) hx hy hl hz ⟨tI, a1, a2, ⟨_, _, tO⟩, z⟩ goal
      have base : s1.heap.objs.size ≤ c := by
        simp only [List.mem_cons, List.not_mem_nil, or_false] at hcm
        rcases hcm with q | q | q | q | q <;> rw [q]
        · exact Nat.le_add_right _ 4
        · exact Nat.le_add_right _ 2
        · exact Nat.le_add_right _ 3
        · exact Nat.le_refl _
        · exact Nat.le_add_right _ 1
      exact I1.fpOk base (I1.hok.fresh base)
end
end Zl
namespace HT
open PySem PySem.Calls PyProof.Rows PySem.W L2
theorem back_items (xs : Array Value) : ((List.range xs.size).filterMap fun (k : Nat) => xs[(((xs.size : Int) - 1) + (k : Int) * (-1)).toNat]?).toArray = xs.toList.reverse.toArray := by
  congr 1
  have e : ∀ k ∈ List.range xs.size, xs[(((xs.size : Int) - 1) + (k : Int) * (-1)).toNat]? = (xs.toList.reverse)[k]? := by
    intro k hk
    have hk := List.mem_range.mp hk
    rw [List.getElem?_reverse (by simpa using hk), Array.getElem?_toList, Array.length_toList]
    congr 1
    omega
  have e2 : (List.range xs.size).filterMap (fun (k : Nat) => xs[(((xs.size : Int) - 1) + (k : Int) * (-1)).toNat]?) = (List.range xs.size).filterMap (fun k => (xs.toList.reverse)[k]?) := by
    have fm : ∀ (l : List Nat) (f g : Nat → Option Value), (∀ k ∈ l, f k = g k) → l.filterMap f = l.filterMap g := by
      intro l f g h
      induction l with
      | nil => rfl
      | cons a l ih => rw [List.filterMap_cons, List.filterMap_cons, h a (by simp), ih (fun k hk => h k (by simp [hk]))]
    exact fm _ _ _ e
  rw [e2]
  have : ∀ (l : List Value), (List.range l.length).filterMap (fun k => l[k]?) = l := by
    intro l
    induction l with
    | nil => rfl
    | cons a l ih =>
      rw [List.length_cons, List.range_succ_eq_map, List.filterMap_cons]
      show a :: _ = _
      rw [List.filterMap_map]
      congr 1
  have h := this xs.toList.reverse
  rw [List.length_reverse, Array.length_toList] at h
  exact h
end HT
namespace My
open PySem L2
/-! ## twice the area that a row of points goes around -/
def cr (u w : Zp) : Int := u.2.1 * w.2.2 - u.2.2 * w.2.1
/-- along a row -/
def along : List Zp → Int
  | u :: w :: r => cr u w + along (w :: r)
  | _ => 0
/-- around: from the last to the first, too -/
def around (zs : List Zp) : Int := match zs.getLast? with
  | some l => along (l :: zs)
  | none => 0
theorem along_cons2 (u w : Zp) (r : List Zp) : along (u :: w :: r) = cr u w + along (w :: r) := rfl
theorem along_app : ∀ (as : List Zp) (u : Zp) (bs : List Zp), along (as ++ u :: bs) = along (as ++ [u]) + along (u :: bs)
  | [], u, bs => by
    show along (u :: bs) = 0 + along (u :: bs)
    omega
  | [a], u, bs => by
    show cr a u + along (u :: bs) = cr a u + 0 + along (u :: bs)
    omega
  | a :: b :: as, u, bs => by
    have := along_app (b :: as) u bs
    show cr a b + along ((b :: as) ++ u :: bs) = cr a b + along ((b :: as) ++ [u]) + along (u :: bs)
    omega
theorem around_snoc (as : List Zp) (l : Zp) : around (as ++ [l]) = along (l :: (as ++ [l])) := by
  unfold around
  rw [List.getLast?_append]
  rfl
/-- begun elsewhere -/
theorem around_turned (as bs : List Zp) : around (bs ++ as) = around (as ++ bs) := by
  rcases List.eq_nil_or_concat as with rfl | ⟨as', a, rfl⟩
  · rw [List.append_nil, List.nil_append]
  rcases List.eq_nil_or_concat bs with rfl | ⟨bs', b, rfl⟩
  · rw [List.append_nil, List.nil_append]
  rw [List.concat_eq_append, List.concat_eq_append]
  rw [← List.append_assoc, around_snoc, ← List.append_assoc (as' ++ [a]), around_snoc]
  have e1 : a :: (bs' ++ [b] ++ as' ++ [a]) = (a :: bs') ++ b :: (as' ++ [a]) := by simp
  have e2 : b :: (as' ++ [a] ++ bs' ++ [b]) = (b :: as') ++ a :: (bs' ++ [b]) := by simp
  have h1 := along_app (a :: bs') b (as' ++ [a])
  have h2 := along_app (b :: as') a (bs' ++ [b])
  rw [e1, e2, h1, h2]
  show along (a :: (bs' ++ [b])) + along (b :: (as' ++ [a])) = along (b :: (as' ++ [a])) + along (a :: (bs' ++ [b]))
  omega
theorem cr_flip (u w : Zp) : cr w u = 0 - cr u w := by unfold cr; grind
theorem along_back : ∀ (zs : List Zp), along zs.reverse = 0 - along zs
  | [] => rfl
  | [u] => rfl
  | u :: w :: r => by
    have ih := along_back (w :: r)
    rw [List.reverse_cons, List.reverse_cons, List.append_assoc]
    show along (r.reverse ++ w :: [u]) = _
    rw [along_app, ← List.reverse_cons, ih]
    show 0 - along (w :: r) + (cr w u + 0) = 0 - (cr u w + along (w :: r))
    rw [cr_flip u w]
    omega
/-- backwards -/
theorem around_back (zs : List Zp) : around zs.reverse = 0 - around zs := by
  cases zs with
  | nil => rfl
  | cons u r =>
    rw [List.reverse_cons, around_snoc, ← List.reverse_cons]
    rcases List.eq_nil_or_concat (u :: r) with e | ⟨as, l, e⟩
    · cases e
    · rw [List.concat_eq_append] at e
      rw [e, around_snoc]
      have e2 : u :: (as ++ [l]).reverse = u :: l :: as.reverse := by simp
      have e3 : l :: (as ++ [l]) = l :: u :: r := by rw [← e]
      rw [e3, along_cons2, ← e]
      rw [show u :: (u :: r).reverse = u :: (as ++ [l]).reverse by rw [e], e2, along_cons2, cr_flip l u]
      have : along (l :: as.reverse) = 0 - along (u :: r) := by rw [← along_back, e]; simp
      omega
end My
namespace My
open PySem L2
/-! ## lists of points that stand through draws -/
/-- a walk, whatever is done at each turn -/
theorem walk_any {J : It} {n : Nat} {G : Hp → Prop} {Y : Nat → Hp → V → Hp → Prop} {Body : (Hp → Prop) → V → Hp → Prop} {End : Hp → Prop} {Hs : Hp} (w : Walk J n G Y) (Pv : Nat → Hp → Prop) (first : Pv 0 Hs) (stands : ∀ i H, i ≤ n → Pv i H → G H)
    (turn : ∀ i x H H', i < n → Pv i H → Y i H x H' → Body (Pv (i + 1)) x H') (last : ∀ H, Pv n H → End H) :
    ∃ W : Nat → Nat → Hp → Prop, (∃ m, W 0 m Hs) ∧ ∀ i m H, W i m H → (J.stop i H ∧ End H) ∨ (J.go i H ∧ ∃ Nx : Hp → Prop, (∀ H', Nx H' → ∃ m', m' < m ∧ W (i + 1) m' H') ∧ ∀ x H', J.yld i H x H' → Body Nx x H') := by
  refine ⟨fun i left H => i + left = n ∧ Pv i H, ⟨n, Nat.zero_add n, first⟩, fun i left H here => ?_⟩
  obtain ⟨count, now⟩ := here
  cases left with
  | zero =>
    obtain rfl : i = n := count
    exact .inl ⟨w.stops H (stands _ H (Nat.le_refl _) now), last H now⟩
  | succ fewer =>
    have more : i < n := by omega
    exact .inr ⟨w.goes i H more (stands _ H (Nat.le_of_lt more) now), Pv (i + 1), fun H' then_ => ⟨fewer, Nat.lt_succ_self fewer, by omega, then_⟩, fun x H' given => turn i x H H' more now (w.yields i H x H' more (stands _ H (Nat.le_of_lt more) now) given)⟩
/-- a list of its own at p: points of the map -/
structure PL (K : PySem.W.Frag) (H : Hp) (s p : Addr) (zs : List Zp) : Prop where
  l : H p = some (.lst (refs zs))
  n : p ≠ s
  p : Pts K H zs
  on : ∀ z ∈ zs, On z.2.1 z.2.2
section
variable {K : PySem.W.Frag} {H H' : Hp} {s b p q : Addr} {zs ws : List Zp} {o : HO}
theorem PL.same (e : Same H H') (h : PL K H s p zs) : PL K H' s p zs := ⟨e.get h.l, h.n, h.p.same e, h.on⟩
theorem PL.but (e : But s H H') (S : Strm H s b) (h : PL K H s p zs) : PL K H' s p zs := ⟨e.get h.n h.l, h.n, h.p.but e S, h.on⟩
theorem PL.over (n : H q = none) (h : PL K H s p zs) : PL K (upd H q o) s p zs := h.same (same_new n)
theorem PL.seq (h : PL K H s p zs) : SqL K H p (refs zs) := SqL.of h.l
theorem PL.at_ {i : Nat} {z : Zp} (h : PL K H s p zs) (e : zs[i]? = some z) : SqT K H z.1 [.int z.2.1, .int z.2.2] := h.p.get e
theorem refs_len : (refs zs).length = zs.length := List.length_map _
theorem refs_app : refs (zs ++ ws) = refs zs ++ refs ws := List.map_append
theorem refs_take {n : Nat} : (refs zs).take n = refs (zs.take n) := (List.map_take).symm
theorem refs_drop {n : Nat} : (refs zs).drop n = refs (zs.drop n) := (List.map_drop).symm
end
end My
namespace My
open PySem L2
/-! ## the least of a row of points; the first place of a point in a tuple -/
abbrev ptsD (zs : List Zp) : List PyData := zs.map fun z => pD z.2.1 z.2.2
theorem dp_pts {K : PySem.W.Frag} {H : Hp} : ∀ {zs : List Zp}, Pts K H zs → DpAll K H (refs zs) (ptsD zs)
  | [], _ => .nil
  | z :: zs, h => .cons (dP (h z (by simp))) (dp_pts fun x hx => h x (by simp [hx]))
theorem pD_inj {ax ay bx dy : Int} (h : pD ax ay = pD bx dy) : ax = bx ∧ ay = dy := by
  unfold pD at h
  injection h with h
  injection h with h1 h2
  injection h1 with h1
  injection h2 with h2 _
  injection h2 with h2
  exact ⟨h1, h2⟩
theorem pD_lay (x y : Int) : (pD x y).canLay0 = true := by simp [pD, PyData.canLay0, PyData.canLayAll0]
theorem pD_depth (x y : Int) : (pD x y).depth ≤ 8 := by simp [pD, PyData.depth, PyData.depthAll]
theorem ptsD_lay : ∀ zs : List Zp, PyData.canLayAll0 (ptsD zs) = true
  | [] => by simp [PyData.canLayAll0]
  | z :: zs => by
    show (PyData.canLay0 (pD z.2.1 z.2.2) && PyData.canLayAll0 (ptsD zs)) = true
    rw [pD_lay, ptsD_lay zs]; rfl
theorem ptsD_depth : ∀ zs : List Zp, PyData.depthAll (ptsD zs) ≤ 8
  | [] => by simp [PyData.depthAll]
  | z :: zs => by
    have h1 := ptsD_depth zs
    have h2 := pD_depth z.2.1 z.2.2
    simp only [ptsD, List.map_cons, PyData.depthAll]
    exact Nat.max_le.mpr ⟨h2, h1⟩
theorem ptsD_alike (zs : List Zp) : PySem.W.AlikeAll (ptsD zs) := by
  refine ⟨fun x hx y hy => ?_, fun x hx => ?_⟩
  · obtain ⟨z, _, rfl⟩ := List.mem_map.mp hx
    obtain ⟨w, _, rfl⟩ := List.mem_map.mp hy
    unfold pD
    simp [PySem.W.alike, PySem.W.alikeAll]
  · obtain ⟨z, _, rfl⟩ := List.mem_map.mp hx
    unfold pD
    intro e
    cases e
theorem ltP_irr (x y : Int) : ltP x y x y = false := decide_eq_false (by omega)
theorem least_fold : ∀ (r : List Zp) (z : Zp), ∃ m ∈ z :: r, PySem.W.minD (pD z.2.1 z.2.2) (ptsD r) = pD m.2.1 m.2.2 ∧ ∀ w ∈ z :: r, ltP w.2.1 w.2.2 m.2.1 m.2.2 = false
  | [], z => ⟨z, by simp, rfl, fun w hw => by rw [List.mem_singleton] at hw; subst hw; exact ltP_irr _ _⟩
  | y :: r, z => by
    have e : PySem.W.minD (pD z.2.1 z.2.2) (ptsD (y :: r)) = PySem.W.minD (if PySem.W.dataLt (pD y.2.1 y.2.2) (pD z.2.1 z.2.2) = true then pD y.2.1 y.2.2 else pD z.2.1 z.2.2) (ptsD r) := rfl
    rw [show PySem.W.dataLt (pD y.2.1 y.2.2) (pD z.2.1 z.2.2) = ltP y.2.1 y.2.2 z.2.1 z.2.2 from PySem.W.dataLt_ii ..] at e
    by_cases q : ltP y.2.1 y.2.2 z.2.1 z.2.2 = true
    · rw [if_pos q] at e
      obtain ⟨m, hm, e1, h1⟩ := least_fold r y
      refine ⟨m, List.mem_cons_of_mem _ hm, e.trans e1, fun w hw => ?_⟩
      rcases List.mem_cons.mp hw with rfl | hw
      · have := h1 y (by simp)
        unfold ltP at this q ⊢
        rw [decide_eq_false_iff_not] at *
        rw [decide_eq_true_eq] at q
        omega
      · exact h1 w hw
    · rw [if_neg q] at e
      obtain ⟨m, hm, e1, h1⟩ := least_fold r z
      refine ⟨m, ?_, e.trans e1, fun w hw => ?_⟩
      · rcases List.mem_cons.mp hm with rfl | hm
        · simp
        · simp [hm]
      · rcases List.mem_cons.mp hw with rfl | hw
        · exact h1 _ (by simp)
        · rcases List.mem_cons.mp hw with rfl | hw
          · have := h1 z (by simp)
            rw [Bool.not_eq_true] at q
            unfold ltP at this q ⊢
            rw [decide_eq_false_iff_not] at *
            omega
          · exact h1 w (by simp [hw])
/-- min(t), t a tuple of points: one of its own -/
def rMinT (K : PySem.W.Frag) : List V → Hp → VK → Prop := fun vs H Q => ∃ (a : Addr) (zs : List Zp), vs = [V.ref a] ∧ (SqT K H a (refs zs) ∨ SqL K H a (refs zs)) ∧ Pts K H zs ∧ 1 ≤ zs.length ∧ ∀ z ∈ zs, (∀ w ∈ zs, ltP w.2.1 w.2.2 z.2.1 z.2.2 = false) → Q (.ref z.1) H
theorem cr_minT {X : Cx} (hc : X.calm = true) (hu : X.A.units + 64 < cLine) : CallR X (.builtin "min") (rMinT X.K) := by
  intro pins s σ H vs us Q I r h
  obtain ⟨a, zs, rfl, hs, hp, hn, q⟩ := h
  rw [Vals.ref1 r]
  have go : ∀ (its : List Value), Vals (refs zs) its → ∀ (as : List Addr), ReadsAll s.heap its (ptsD zs) as → ∀ (i : Nat) v h' tk bs, its.toArray[i]? = some v → Reads h' v (PySem.W.minD ((ptsD zs).headD .none) ((ptsD zs).drop 1)) bs → (∀ b o, s.heap.get? b = some o → h'.get? b = some o) → ∃ y H', Inv X pins σ H' { s with heap := h', toks := tk } ∧ RelV y v ∧ Q y H' := by
    intro its rv as ra i v h' tk bs hv hr hk
    have hv' : its[i]? = some v := by simpa using hv
    have li : i < its.length := (List.getElem?_eq_some_iff.mp hv').1
    have lz : i < zs.length := by have := rv.length; rw [List.length_map] at this; omega
    obtain ⟨z, hz⟩ : ∃ z, zs[i]? = some z := ⟨_, List.getElem?_eq_getElem lz⟩
    obtain ⟨w, hw, rw_⟩ := rv.get (i := i) (x := .ref z.1) (by rw [List.getElem?_map, hz]; rfl)
    rw [hv'] at hw
    cases hw
    have ev : v = Value.ref z.1 := rw_
    subst ev
    obtain ⟨cs, rz⟩ := Dp.reads I _ _ (.ref z.1) (dP (hp z (List.mem_of_getElem? hz))) rfl
    have rz := PySem.W.reads_keeps hk rz
    obtain ⟨z0, zr, rfl⟩ : ∃ z0 zr, zs = z0 :: zr := by
      cases zs with
      | nil => cases hn
      | cons z0 zr => exact ⟨z0, zr, rfl⟩
    obtain ⟨m, hm, e1, h1⟩ := least_fold zr z0
    have hr : Reads h' (.ref z.1) (PySem.W.minD (pD z0.2.1 z0.2.2) (ptsD zr)) bs := hr
    rw [e1] at hr
    have e2 := SeqAt.readOf_eq (pD_lay _ _) hr
    rw [SeqAt.readOf_eq (pD_lay _ _) rz] at e2
    obtain ⟨e3, e4⟩ := pD_inj e2
    exact ⟨.ref z.1, H, I.kept hk, rfl, q z (List.mem_of_getElem? hz) fun w hw => by rw [e3, e4]; exact h1 w hw⟩
  have hd : X.A.units + 1 + PyData.depthAll (ptsD zs) < cLine := by have := ptsD_depth zs; omega
  have hcons : ptsD zs = (ptsD zs).headD .none :: (ptsD zs).drop 1 := by
    cases zs with
    | nil => cases hn
    | cons z0 zr => rfl
  rcases hs with hs | hs
  · obtain ⟨its, rv, hl, hz⟩ := I.tuple hs
    obtain ⟨as, ra⟩ := Dp.readsAll I _ _ _ (dp_pts hp) rv
    refine PySem.W.min_tuple_data (I.ok.hd hc) hl (x := (ptsD zs).headD .none) (xs := (ptsD zs).drop 1) (as := as) (by rw [← hcons]; exact ra) (by rw [← hcons]; exact ptsD_alike zs) (by rw [← hcons]; exact hd) fun i v h' tk bs hv hr hk => go its rv as ra i v h' tk bs hv hr hk
  · obtain ⟨its, rv, hl, hz⟩ := I.list hs
    obtain ⟨as, ra⟩ := Dp.readsAll I _ _ _ (dp_pts hp) rv
    refine PySem.W.min_list_data (I.ok.hd hc) hl.isList (x := (ptsD zs).headD .none) (xs := (ptsD zs).drop 1) (as := as) (by rw [← hcons]; exact ra) (by rw [← hcons]; exact ptsD_alike zs) (by rw [← hcons]; exact hd) fun i v h' tk bs hv hr hk => go its rv as ra i v h' tk bs hv hr hk
theorem _root_.L2.Room.units65 {k : Nat} {A : Around} (r : L2.Room k A) : A.units + 65 < cLine := by have := r.un; omega
end My
namespace My
open PySem PySem.Spec PyProof.Rows L2
/-! ## tuples without a dict of their own: their methods can be called -/
def TN (H : Hp) (a : Addr) (xs : List V) : Prop := ∃ o : Obj, H a = some (.frz o (.tup xs)) ∧ o.dict = none
theorem TN.t {K : PySem.W.Frag} {H : Hp} {a : Addr} {xs : List V} (h : TN H a xs) : SqT K H a xs := by
  obtain ⟨o, e, _⟩ := h
  exact .inl (.inr ⟨o, e⟩)
theorem TN.same {H H' : Hp} {a : Addr} {xs : List V} (e : Same H H') (h : TN H a xs) : TN H' a xs := by
  obtain ⟨o, h, d⟩ := h
  exact ⟨o, e.get h, d⟩
theorem TN.but {H H' : Hp} {s b a : Addr} {xs : List V} (e : But s H H') (S : Strm H s b) (h : TN H a xs) : TN H' a xs := by
  obtain ⟨o, h, d⟩ := h
  obtain ⟨ys, n⟩ := S.lst
  exact ⟨o, e.get (ne_of h n (by intro z; cases z)) h, d⟩
theorem TN.here {H : Hp} {a : Addr} {xs : List V} {o : Obj} (d : o.dict = none) : TN (upd H a (.frz o (.tup xs))) a xs := ⟨o, upd_same, d⟩
section
variable {X : Cx}
theorem call_tuple_ofN : CallR X (.type "tuple") (fun xs H Q => ∃ p ys, xs = [.ref p] ∧ SqL X.K H p ys ∧ ∀ l o, H l = none → o.dict = none → Q (.ref l) (upd H l (.frz o (.tup ys)))) := by
  intro pins s σ H xs us Q I r h
  obtain ⟨p, ys, rfl, hq, q⟩ := h
  obtain ⟨u, rfl, rx⟩ := vals1 r
  cases rx
  obtain ⟨its, r', pl, hz⟩ := I.list hq
  have hlen := r'.length
  refine call_tuple_list pl.isList (fun h' kp => ?_) (by simp only [List.size_toArray] <;> omega)
  have I1 : Inv X pins σ H { s with heap := h' } := I.kept (t' := s.toks) kp
  have I2 : Inv X pins σ (upd H h'.objs.size (.frz { cls := .type "tuple", data := .seq its.toArray } (.tup ys))) { s with heap := h'.push { cls := .type "tuple", data := .seq its.toArray } } :=
    I1.laid (t' := s.toks) (fun b o e => Heap.get?_push_of_some _ e) (Nat.le_refl _) (show ObjOk X.prog X.w _ _ _ (.frz _ (.tup ys)) from ⟨Heap.get?_push_size _ rfl, hz, its, r', IsTup.new _ _⟩)
  exact ⟨.ref h'.objs.size, _, I2, rfl, q _ _ (I1.hok.fresh (Nat.le_refl _)) rfl⟩
variable {o e : Expr} {es : List Expr} {to : TE} {t : TA} {name : Str} {apos cpos : Pos} {id : String} {r : V → List V → Hp → VK → Prop}
end
end My
namespace My
open PySem L2
/-! ## rows of points that go around simply -/
/-- no common point of the segments a b and c d, told by their ends and the turns -/
def Apart2 (a b c d : Pt) : Prop := box a c d = false ∧ box b c d = false ∧ box c a b = false ∧ box d a b = false ∧ ¬ (tn a b c * tn a b d < 0 ∧ tn c d a * tn c d b < 0)
/-- the segments p q and q r have only q in common -/
def Adj (p q r : Pt) : Prop := box p q r = false ∧ box r p q = false
theorem box_swap (p a b : Pt) : box p b a = box p a b := by
  have e : turnI b.1 b.2 a.1 a.2 p.1 p.2 = 0 - turnI a.1 a.2 b.1 b.2 p.1 p.2 := turn_swap ..
  unfold box boxI
  rw [e, show decide (0 - turnI a.1 a.2 b.1 b.2 p.1 p.2 = 0) = decide (turnI a.1 a.2 b.1 b.2 p.1 p.2 = 0) from decide_eq_decide.mpr (by omega)]
  have m1 : (if a.1 < b.1 then a.1 else b.1) = (if b.1 < a.1 then b.1 else a.1) := by split <;> split <;> omega
  have m2 : (if a.1 > b.1 then a.1 else b.1) = (if b.1 > a.1 then b.1 else a.1) := by split <;> split <;> omega
  have m3 : (if a.2 < b.2 then a.2 else b.2) = (if b.2 < a.2 then b.2 else a.2) := by split <;> split <;> omega
  have m4 : (if a.2 > b.2 then a.2 else b.2) = (if b.2 > a.2 then b.2 else a.2) := by split <;> split <;> omega
  rw [m1, m2, m3, m4]
theorem tn_flip (a b c : Pt) : tn b a c = 0 - tn a b c := turn_swap ..
theorem Apart2.swap1 {a b c d : Pt} (h : Apart2 a b c d) : Apart2 b a c d := by
  obtain ⟨h1, h2, h3, h4, h5⟩ := h
  refine ⟨h2, h1, by rw [box_swap]; exact h3, by rw [box_swap]; exact h4, fun ⟨q1, q2⟩ => h5 ⟨?_, ?_⟩⟩
  · rw [tn_flip, tn_flip a b] at q1
    have e : (0 - tn a b c) * (0 - tn a b d) = tn a b c * tn a b d := by grind
    rw [e] at q1
    exact q1
  · rw [Int.mul_comm]; exact q2
theorem Apart2.sym {a b c d : Pt} (h : Apart2 a b c d) : Apart2 c d a b := by
  obtain ⟨h1, h2, h3, h4, h5⟩ := h
  exact ⟨h3, h4, h1, h2, fun q => h5 ⟨q.2, q.1⟩⟩
theorem Apart2.swap2 {a b c d : Pt} (h : Apart2 a b c d) : Apart2 a b d c := h.sym.swap1.sym
theorem box_l {a b : Pt} (h : a ≠ b) : box a a b = true := by
  by_cases q : lt a b = true
  · rw [← on_box q]; exact on_a q
  · rw [Bool.not_eq_true] at q
    have g : lt b a = true := by
      cases e : lt b a with
      | true => rfl
      | false => exact absurd (lt_tri q e) h
    rw [box_swap, ← on_box g]
    exact on_b g
def isT : Mt → Bool
  | .touch _ => true
  | _ => false
def ord (a b : Pt) : Pt × Pt := if lt a b = true then (a, b) else (b, a)
/-- the i-th point, around -/
def pt (zs : List Zp) (i : Nat) : Pt := match zs[i % zs.length]? with
  | some z => z.2
  | none => (0, 0)
theorem pt_at {zs : List Zp} {i : Nat} {z : Zp} (h : zs[i]? = some z) : pt zs i = z.2 := by
  have l := (List.getElem?_eq_some_iff.mp h).1
  unfold pt
  rw [Nat.mod_eq_of_lt l, h]
theorem pt_add {zs : List Zp} (i : Nat) : pt zs (i + zs.length) = pt zs i := by unfold pt; rw [Nat.add_mod_right]
theorem pt_mod {zs : List Zp} {i j : Nat} (h : i % zs.length = j % zs.length) : pt zs i = pt zs j := by unfold pt; rw [h]
structure Simp (zs : List Zp) : Prop where
  ne : ∀ i, i < zs.length → pt zs i ≠ pt zs (i + 1)
  adj : ∀ i, i < zs.length → Adj (pt zs i) (pt zs (i + 1)) (pt zs (i + 2))
  apart : ∀ i j, i + 1 < j → j < zs.length → ¬ (i = 0 ∧ j + 1 = zs.length) → Apart2 (pt zs i) (pt zs (i + 1)) (pt zs j) (pt zs (j + 1))
end My
namespace PySem
end PySem
namespace My
open PySem L2
/-! ## rings at addresses -/
theorem op_eqK {X : Cx} {K : PySem.W.Frag} (hK : X.K = K) (hu : X.A.units + 64 < cLine) : OpR X (compareOp .Eq) (rPP K fun ax ay bx dy => .bl (decide (ax = bx ∧ ay = dy))) := by
  subst hK
  exact op_eqP hu
end My
namespace My
open PySem L2
/-! ## where a point lies: edges that cross the ray to the east -/
theorem box_iff {p a b : Pt} : box p a b = true ↔ tn a b p = 0 ∧ ((a.1 ≤ p.1 ∧ p.1 ≤ b.1) ∨ (b.1 ≤ p.1 ∧ p.1 ≤ a.1)) ∧ ((a.2 ≤ p.2 ∧ p.2 ≤ b.2) ∨ (b.2 ≤ p.2 ∧ p.2 ≤ a.2)) := by
  unfold box boxI tn
  simp only [Bool.and_eq_true, decide_eq_true_eq]
  constructor
  · rintro ⟨h1, h2⟩
    refine ⟨h1, ?_, ?_⟩ <;> (revert h2; (repeat' split) <;> omega)
  · rintro ⟨h1, h2, h3⟩
    refine ⟨h1, ?_⟩
    (repeat' split) <;> omega
end My
namespace My
open PySem L2
/-! ## rings, and where a point lies -/
/-- the ring that points are made -/
structure Made (zs ws : List Zp) : Prop where
  ex : ∃ ys j z, ys = (if around zs < 0 then zs.reverse else zs) ∧ ys[j]? = some z ∧ (∀ w ∈ ys, lt w.2 z.2 = false) ∧ (∀ (m : Nat) (w : Zp), m < j → ys[m]? = some w → w.2 ≠ z.2) ∧ ws = ys.drop j ++ ys.take j
theorem Made.unique {zs ws vs : List Zp} (h : Made zs ws) (g : Made zs vs) : ws = vs := by
  obtain ⟨ys, j, z, e1, h1, h2, h3, rfl⟩ := h.ex
  obtain ⟨xs, k, w, e2, g1, g2, g3, rfl⟩ := g.ex
  have e : ys = xs := e1.trans e2.symm
  subst e
  have zw : z.2 = w.2 := lt_tri (g2 z (List.mem_of_getElem? h1)) (h2 w (List.mem_of_getElem? g1))
  have jk : j = k := by
    rcases Nat.lt_trichotomy j k with q | q | q
    · exact absurd zw (g3 j z q h1)
    · exact q
    · exact absurd zw.symm (h3 k w q g1)
  rw [jk]
theorem Made.mem {zs ws : List Zp} (h : Made zs ws) : ∀ z ∈ ws, z ∈ zs := by
  obtain ⟨ys, j, z, e1, h1, h2, h3, rfl⟩ := h.ex
  intro w hw
  have hy : w ∈ ys := (List.mem_append.mp hw).elim List.mem_of_mem_drop List.mem_of_mem_take
  rw [e1] at hy
  split at hy
  · exact List.mem_reverse.mp hy
  · exact hy
theorem Made.len {zs ws : List Zp} (h : Made zs ws) : ws.length = zs.length := by
  obtain ⟨ys, j, z, e1, h1, h2, h3, rfl⟩ := h.ex
  have : ys.length = zs.length := by rw [e1]; split <;> simp
  rw [List.length_append, List.length_drop, List.length_take]
  omega
theorem Made.pos {zs ws : List Zp} (h : Made zs ws) (n : around zs ≠ 0) : 0 < around ws := by
  obtain ⟨ys, j, z, e1, h1, h2, h3, rfl⟩ := h.ex
  rw [around_turned, List.take_append_drop, e1]
  split
  · rw [around_back]; omega
  · omega
theorem Made.least {zs ws : List Zp} (h : Made zs ws) : ∀ w ∈ ws, lt w.2 (pt ws 0) = false := by
  obtain ⟨ys, j, z, e1, h1, h2, h3, rfl⟩ := h.ex
  have hj := (List.getElem?_eq_some_iff.mp h1).1
  have e : (ys.drop j ++ ys.take j)[0]? = some z := by
    rw [List.getElem?_append_left (by rw [List.length_drop]; omega), List.getElem?_drop, Nat.add_zero]
    exact h1
  intro w hw
  rw [pt_at e]
  exact h2 w ((List.mem_append.mp hw).elim List.mem_of_mem_drop List.mem_of_mem_take)
/-! ### triangles -/
end My
namespace SetP
open PySem PySem.Spec PySem.Calls PyProof.Rows L2
/-! ## the set of a tuple of points; its members in order -/
abbrev bare (w : World) : Obj := { cls := .type "set", dict := none, data := .set #[] 0 (.fresh 0 0 (!w.params.followText "set-order")) }
theorem perm_inv {α β : Type} {f : α → β} : ∀ {l : List β} {m : List α}, l.Perm (m.map f) → ∃ n : List α, l = n.map f ∧ n.Perm m
  | [], m, h => by
    have e : m.map f = [] := h.symm.eq_nil
    exact ⟨[], rfl, by rw [List.map_eq_nil_iff.mp e]⟩
  | x :: l, m, h => by
    obtain ⟨y, hy, rfl⟩ := List.mem_map.mp (h.mem_iff.mp (List.mem_cons_self (a := x) (l := l)))
    obtain ⟨u, t, rfl⟩ := List.append_of_mem hy
    have h2 : l.Perm ((u ++ t).map f) := by
      refine List.Perm.cons_inv (a := f y) (h.trans ?_)
      rw [List.map_append, List.map_append, List.map_cons]
      exact List.perm_middle
    obtain ⟨n, rfl, hn⟩ := perm_inv h2
    exact ⟨y :: n, rfl, (hn.cons y).trans List.perm_middle.symm⟩
section
variable {P : Program} {w : World} {A : Around} {E : Value → Shared → Prop} {s : Shared}
theorem set_of_tuple {tp : Addr} {its : Array Value} (rows : List (Addr × List Int)) {Q : Value → Shared → Prop} (quiet : A.handled = none) (isTp : s.heap.IsTuple tp its) (same : its.toList = rows.map fun r => Value.ref r.1)
    (each : ∀ r ∈ rows, IsT P w s.heap r.2 r.1) (few : rows.length < 64) (room : A.units + 3 < cLine)
    (next : ∀ (g : Heap) (tk : Nat) L es ep t, SetTR P w g s.heap.objs.size L es ep t → Got rows rows.length L → (∀ b o, s.heap.get? b = some o → g.get? b = some o) → Q (.ref s.heap.objs.size) { s with heap := g, toks := tk }) :
    wpAny (model P w) A (call (.type "set") [.ref tp]) Q E s := by
  have size_ : its.size = rows.length := by rw [← Array.length_toList, same, List.length_map]
  obtain ⟨c1, l1, mro_⟩ := F.called_set.mro
  have made_ := F.called_set.made
  have sub_ := F.called_set.sub
  refine (wpAny_call (codeAny_of_tree (?_)))
  show wpAny _ _ (callAny (Value.type "set") _) _ _ _
  refine (wpAny_pure ⟨Code.quiet_builtin _ (by decide +kernel), codeAny_builtin F.entry_type_call (?_)⟩)
  rw [Around.under_plain (weight_type_call_type ("set") [.ref tp] []) rfl]
  have notTy := F.called_set.notType
  have canMk := F.called_set.canCreate
  have tyCall := F.typeCall_set_1 (.ref tp)
  repeat any_goals first | assumption | wp_step
  refine codeAny_mono (code_set_led1 (Value.ref tp) (E := E) (Q₁ := fun x s1 => x = Value.ref s.heap.objs.size ∧ s1 = { s with heap := s.heap.push (bare w) }) ⟨rfl, rfl⟩) fun got s1 told => ?_
  cases got with
  | error x => exact told
  | ok fl =>
    cases fl with
    | ret x =>
      obtain ⟨rfl, rfl⟩ := told
      have atSet : (s.heap.push (bare w)).get? s.heap.objs.size = some (bare w) := Heap.get?_push_size _ rfl
      have tySet : Shared.TypeIs { s with heap := s.heap.push (bare w) } (.ref s.heap.objs.size) ("set") := ⟨_, atSet, rfl⟩
      have initL := F.called_set.init.lookup
      have initB := F.called_set.init.bind (Value.ref s.heap.objs.size)
      repeat any_goals first | assumption | wp_step
      refine codeAny_mono (codeAny_call_builtin (R := wants (fun y s2 => y = Value.none ∧ ∃ g tk L es ep t, s2 = { s with heap := g, toks := tk } ∧ SetTR P w g s.heap.objs.size L es ep t ∧ Got rows rows.length L ∧
        ∀ b o, s.heap.get? b = some o → g.get? b = some o) E) F.called_set.init.plain F.entry_set_init (check_set_init_1 tySet (?_))) fun got2 s2 told2 => ?_
      · obtain ⟨ob, hob, cls_, cnt, data_⟩ := isTp
        obtain ⟨kls, dic, dat, slo⟩ := ob
        simp only at cls_ data_
        subst cls_ data_
        have atTp : (s.heap.push (bare w)).get? tp = some { cls := .type "tuple", dict := dic, data := .seq its cnt, slots := slo } := Heap.get?_push_of_some _ hob
        have no1 := F.sub_tuple_set
        have no2 := F.sub_tuple_frozenset
        have no3 : (Value.type "tuple" == Value.type "dict") = false := by decide
        have tp1 : (s.heap.push (bare w)).IsTuple tp its := ⟨_, atTp, rfl, cnt, rfl⟩
        unfold Builtin.«set.__init__»
        unfold noKeywords Builtin.Frozenset.updateFrom
        generalize pyIterIs : pyIter = walker
        wp_walk
        subst pyIterIs
        refine (wpAny_pyIter_tuple tp1 (?_))
        refine (wpAny_bind (wpAny_runValue (?_)))
        have below : tp < s.heap.objs.size := Heap.lt_size hob
        have quiet3 : A.in1.in1.in1.handled = none := by simp [quiet]
        have apart_ : tp ≠ (s.heap.push (bare w)).objs.size := by
          rw [Heap.size_push]
          exact (Nat.ne_of_lt (Nat.lt_trans below (Nat.lt_succ_self _)))
        have other : s.heap.objs.size ∉ [(s.heap.push (bare w)).objs.size, tp] := by
          rw [Heap.size_push]
          simp only [List.mem_cons, List.not_mem_nil, or_false, not_or]
          exact (And.intro (Nat.ne_of_lt (Nat.lt_succ_self _)) (Nat.ne_of_gt below))
        have told : ∀ (i : Nat) (v : Value), its[i]? = some v → ∃ r, rows[i]? = some r ∧ v = .ref r.1 := fun i v hv => by
          rw [← Array.getElem?_toList, same, List.getElem?_map] at hv
          obtain ⟨r, h1, h2⟩ := Option.map_eq_some_iff.mp hv
          exact ⟨r, h1, h2.symm⟩
        have free : ∀ b, s.heap.objs.size ≤ b → s.heap.get? b = none := fun b hb => by
          cases q : s.heap.get? b with
          | none => rfl
          | some o =>
            exact absurd (Heap.lt_size q) (Nat.not_lt.mpr hb)
        refine set_update_tups ((Walks.tuple quiet3 _ tp apart_ its).toS) s.heap.objs.size other rows size_ few told s.heap each (free _ (Nat.le_refl _)) (fun b hb => free b (by
          rw [List.mem_singleton.mp hb, Heap.size_push]
          exact Nat.le_succ _)) room (its.size - 0) 0 _ (by omega) (Nat.zero_le _) ⟨⟨_, Heap.get?_push_size _ rfl, rfl, rfl⟩, tp1.push _⟩ (fun b o e => Heap.get?_push_of_some _ (Heap.get?_push_of_some _ e)) ?first ?last
        case first =>
          exact ⟨[], #[], 0, _, setTR_fresh (Heap.get?_push_of_some _ atSet), Got.zero rows⟩
        case last =>
          intro s3 L es ep t moved is_ all_ kept
          obtain ⟨g3, n3, d3, t3, o3⟩ := s3
          obtain rfl : n3 = s.gens := moved.gens
          obtain rfl : d3 = s.drawn := moved.drawn
          obtain rfl : o3 = s.os := moved.os
          show wpAny _ _ (_) _ _ _
          refine (wpAny_pure (?_))
          show wpAny _ _ (ret (Value.none)) _ _ _
          rw [size_] at all_
          exact wpAny_pure ⟨rfl, g3, t3, L, es, ep, t, rfl, is_, all_, kept⟩
      · cases got2 with
        | error x => exact told2
        | ok fl2 =>
          cases fl2 with
          | ret y =>
            obtain ⟨rfl, g, tk, L, es, ep, t, rfl, is_, all_, kept⟩ := told2
            repeat any_goals first | assumption | wp_step
            exact next g tk L es ep t is_ all_ kept
          | _ => exact told2.elim
    | _ => exact told.elim
/-- sorted of such a set: pairs of whole numbers, of any sign -/
theorem sorted_set {a : Addr} {L : List (Addr × List Int)} {es : Array (Int × Value)} {ep : Nat} {t : SetTable} {Q : Value → Shared → Prop} (R : SetTR P w s.heap a L es ep t) (quiet : A.handled = none) (room : A.units + 64 < cLine)
    (bs : List My.Pn) (eL : L = bs.map fun b => (b.1, [b.2.1, b.2.2])) (rd : ∀ b ∈ bs, ∃ as, Reads s.heap (.ref b.1) (My.pnD b) as)
    (next : ∀ s2 p (out : List Value) (c : Nat) (bs2 : List My.Pn), (∀ b o, s.heap.get? b = some o → s2.heap.get? b = some o) → s2.gens = s.gens → s2.os = s.os → s.heap.objs.size ≤ p →
      s2.heap.get? p = some (seqObj "list" out.toArray c) → bs2.Perm bs → PySem.W.EachIs (fun v b => v = Value.ref b.1) out (bs2.mergeSort fun p q => decide (p.2.1 < q.2.1 ∨ (p.2.1 = q.2.1 ∧ p.2.2 ≤ q.2.2))) → Q (.ref p) s2) :
    wpAny (model P w) A (call (.builtin "sorted") [.ref a]) Q E s := by
  obtain ⟨o, ho, ex_, data_⟩ := R.ob
  have few := R.few
  have size_ := R.size
  refine (Calls.call_function_entry kind_sorted plain_sorted entry_sorted (args_sorted1 (Value.ref a)) (?_))
  unfold Builtin.«sorted»
  refine (wpAny_bind (m := checkCount "sorted" 1 1 _) (wpAny_pure (?_)))
  refine wpAny_bind (collect_set (A := A.in1) quiet ⟨o, ho, ex_.1, data_⟩ R.fits (by unfold scanBound; omega) R.tab.ris R.led fun s1 vs kept size1 gens1 os1 perm => ?_)
  have rows : es.toList.map (·.2) = bs.map fun b => Value.ref b.1 := by
    rw [R.rows]
    unfold rowsOf
    rw [eL, List.map_map, List.map_map]
    rfl
  rw [rows] at perm
  obtain ⟨bs1, rfl, perm1⟩ := perm_inv perm
  have few1 : bs1.length < 64 := by
    rw [perm1.length_eq]
    rw [eL, List.length_map] at few
    exact few
  refine wpAny_bind (wpAny_newList (?_) (by rw [sizeLine_eq, List.length_map]; omega))
  have at_ : (s1.heap.push (seqObj "list" (bs1.map fun b => Value.ref b.1).toArray 0)).get? s1.heap.objs.size = some (seqObj "list" (bs1.map fun b => Value.ref b.1).toArray 0) := Heap.get?_push_size _ rfl
  have each_ : ∀ (Z : Value → My.Pn → Prop) (cs : List My.Pn), (∀ b ∈ cs, Z (.ref b.1) b) → PySem.W.EachIs Z (cs.map fun b => Value.ref b.1) cs := fun Z cs => by
    induction cs with
    | nil => exact fun _ => .nil
    | cons b cs ih => exact fun h => .cons (h b (by simp)) (ih fun x hx => h x (by simp [hx]))
  have reads_ : ∀ b ∈ bs1, ∃ as, Reads (s1.heap.push (seqObj "list" (bs1.map fun b => Value.ref b.1).toArray 0)) (.ref b.1) (My.pnD b) as ∧ s1.heap.objs.size ∉ as := fun b hb => by
    obtain ⟨as, r0⟩ := rd b (perm1.mem_iff.mp hb)
    have r1 : Reads s1.heap (.ref b.1) (My.pnD b) as := PyProof.Rows.Reads.keeps kept r0
    refine ⟨as, PyProof.Rows.Reads.keeps (fun x o e => Heap.get?_push_of_some _ e) r1, fun z => ?_⟩
    obtain ⟨o, q⟩ := PyProof.On.reads_mem_get r1 _ z
    exact Nat.lt_irrefl _ (Heap.lt_size q)
  refine wpAny_bind (wpAny_holding (PySem.W.list_sort_data (s := { s1 with heap := s1.heap.push (seqObj "list" (bs1.map fun b => Value.ref b.1).toArray 0) }) (enc := My.pnD) at_ (each_ (fun v b => v = Value.ref b.1) bs1 fun b _ => rfl) (each_ (fun v b => ∃ as, Reads _ v (My.pnD b) as ∧ s1.heap.objs.size ∉ as) bs1 reads_) (PySem.W.AllAlike.of fun b b' => ?_) (PySem.W.Sortable.tuples fun b => ⟨_, _, rfl⟩) (by rw [sizeLine_eq]; omega) (fun b _ => ?_) fun out len_ ho2 => ?_))
  · unfold My.pnD My.pD
    simp [PySem.W.alike, PySem.W.alikeAll]
  · have : (My.pnD b).depth ≤ 8 := by
      unfold My.pnD My.pD
      simp [PyData.depthAll, PyData.depth]
    show A.in1.units + 1 + _ < _
    have u1 : A.in1.units ≤ A.units + 1 := Nat.le_refl _
    omega
  rw [show PySem.W.dataLe false My.pnD = fun p q : My.Pn => decide (p.2.1 < q.2.1 ∨ (p.2.1 = q.2.1 ∧ p.2.2 ≤ q.2.2)) from PySem.W.dataLe_ii (fun b : My.Pn => b.2.1) (fun b : My.Pn => b.2.2)] at ho2
  obtain ⟨c, hc⟩ := sortedHeap_at (vs := bs1.map fun b => Value.ref b.1) (out := out.toArray) at_
  refine wpAny_pure ⟨_, rfl, next _ s1.heap.objs.size out c bs1 (fun b u e => ?_) gens1 os1 size1 hc perm1 ho2⟩
  have lt1 := Heap.lt_size (kept b u e)
  show (sortedHeap (s1.heap.push (seqObj "list" (bs1.map fun b => Value.ref b.1).toArray 0)) s1.heap.objs.size (bs1.map fun b => Value.ref b.1) out.toArray).get? b = some u
  rw [sortedHeap_old (Nat.ne_of_lt lt1) (by rw [size_push']; exact Nat.lt_succ_of_lt lt1)]
  exact Heap.get?_push_of_some _ (kept b u e)
end
/-! ### the two calls -/
def row2 (b : My.Pn) : Addr × List Int := (b.1, [b.2.1, b.2.2])
theorem sub_inv {α β : Type} {f : α → β} {m : List α} : ∀ {l : List β}, (∀ x ∈ l, x ∈ m.map f) → ∃ n : List α, l = n.map f ∧ ∀ y ∈ n, y ∈ m
  | [], _ => ⟨[], rfl, fun _ h => by cases h⟩
  | x :: l, h => by
    obtain ⟨y, hy, rfl⟩ := List.mem_map.mp (h x List.mem_cons_self)
    obtain ⟨n, rfl, hn⟩ := sub_inv (m := m) (f := f) fun z hz => h z (List.mem_cons_of_mem _ hz)
    exact ⟨y :: n, rfl, fun z hz => (List.mem_cons.mp hz).elim (fun e => e ▸ hy) (hn z)⟩
def rSetP (K : PySem.W.Frag) (P : Program) (w : World) : List V → Hp → VK → Prop := fun xs H Q => ∃ (a : Addr) (zs : List My.Pn), xs = [V.ref a] ∧ SqT K H a (zs.map My.pnV) ∧ (∀ z ∈ zs, SqT K H z.1 [.int z.2.1, .int z.2.2]) ∧ zs.length < 64 ∧
  ∀ p (bs : List My.Pn), H p = none → (∀ b ∈ bs, b ∈ zs) → (∀ z ∈ zs, z.2 ∈ bs.map fun b => b.2) → Q (.ref p) (upd H p (SetTO P w p (bs.map row2)))
section
variable {X : Cx}
theorem row2_inj {b c : My.Pn} (h : (row2 b).2 = (row2 c).2) : b.2 = c.2 := by
  unfold row2 at h
  injection h with h1 h2
  injection h2 with h2
  exact Prod.ext h1 h2
theorem cr_setP (calm : X.calm = true) (room : X.A.units + 64 < cLine) : CallR X (.type "set") (rSetP X.K X.prog X.w) := by
  intro pins s σ H xs us Q I r h
  obtain ⟨a, zs, rfl, hl, hz, few, q⟩ := h
  rw [Vals.ref1 r]
  obtain ⟨its, rv, ⟨o, ho, cls_, cnt, data_⟩, _⟩ := I.tuple hl
  have ei : its = zs.map fun z => Value.ref z.1 := by
    have go : ∀ {zs : List My.Pn} {us : List Value}, Vals (zs.map My.pnV) us → us = zs.map fun z => Value.ref z.1 := fun {zs} => by
      induction zs with
      | nil => intro us h; cases h; rfl
      | cons z zs ih =>
        intro us h
        cases h with
        | cons r t =>
          have e : _ = Value.ref z.1 := r
          rw [e, ih t]
          rfl
    exact go rv
  have free : H s.heap.objs.size = none := I.hok.fresh (Nat.le_refl _)
  refine set_of_tuple (P := X.prog) (w := X.w) (zs.map row2) (I.ok.hd calm) ⟨o, ho, cls_, cnt, data_⟩ (by rw [ei, List.map_map]; rfl) (fun r hr => ?_) (by rw [List.length_map]; exact few) (by omega) fun g tk L es ep t R got kept => ?_
  · obtain ⟨z, hz1, rfl⟩ := List.mem_map.mp hr
    exact I.isT (k := [z.2.1, z.2.2]) (hz z hz1)
  · obtain ⟨bs, rfl, hb⟩ := sub_inv (f := row2) (m := zs) fun x hx => List.mem_of_mem_take (got.sub x hx)
    refine ⟨.ref s.heap.objs.size, upd H s.heap.objs.size (SetTO X.prog X.w s.heap.objs.size (bs.map row2)), I.laid (t' := tk) kept (Nat.le_refl _) (setTO_new R.t0), rfl, q _ bs free hb fun z hz2 => ?_⟩
    have := got.all (row2 z) (by rw [List.take_length]; exact List.mem_map.mpr ⟨z, hz2, rfl⟩)
    rw [List.map_map] at this
    obtain ⟨b, hb1, hb2⟩ := List.mem_map.mp this
    exact List.mem_map.mpr ⟨b, hb1, row2_inj hb2⟩
def rSortedP (K : PySem.W.Frag) (P : Program) (w : World) : List V → Hp → VK → Prop := fun vs H Q => ∃ (a : Addr) (bs : List My.Pn), vs = [V.ref a] ∧ H a = some (SetTO P w a (bs.map row2)) ∧ (∀ b ∈ bs, SqT K H b.1 [.int b.2.1, .int b.2.2]) ∧
  ∀ p (cs : List My.Pn), cs.Perm bs → (cs.map fun b => b.2).Nodup → cs.length < 64 → H p = none → Q (.ref p) (upd H p (.lst ((cs.mergeSort fun p q => decide (p.2.1 < q.2.1 ∨ (p.2.1 = q.2.1 ∧ p.2.2 ≤ q.2.2))).map My.pnV)))
theorem cr_sortedP (calm : X.calm = true) (room : X.A.units + 64 < cLine) : CallR X (.builtin "sorted") (rSortedP X.K X.prog X.w) := by
  intro pins s σ H vs us Q I r h
  obtain ⟨a, bs, rfl, ha, hb, q⟩ := h
  have R0 : SetT0 X.prog X.w s.heap a (bs.map row2) := (I.hok a _ ha).1
  obtain ⟨es, ep, t, R⟩ := R0.full fun r hr => by
    obtain ⟨b, hb1, rfl⟩ := List.mem_map.mp hr
    exact I.isT (k := [b.2.1, b.2.2]) (hb b hb1)
  rw [Vals.ref1 r]
  refine sorted_set R (I.ok.hd calm) room bs rfl (fun b hb1 => Dp.reads I _ (.ref b.1) _ (My.dP (hb b hb1)) rfl) fun s2 p out c cs kept g o hp hg perm ho => ?_
  have few : cs.length < 64 := by
    have := R.few
    rw [List.length_map] at this
    rw [perm.length_eq]
    exact this
  have nd : (cs.map fun b => b.2).Nodup := by
    have h1 := R.nd
    rw [List.map_map] at h1
    have h2 : (bs.map fun b => b.2).Nodup := by
      rw [List.nodup_iff_pairwise_ne, List.pairwise_map] at h1 ⊢
      exact h1.imp fun {b c} ne e => ne (by
        show [b.2.1, b.2.2] = [c.2.1, c.2.2]
        rw [e])
    exact (perm.map _).nodup_iff.mpr h2
  have free : H p = none := I.hok.fresh hp
  have rv := My.vals_of_each ho
  have J : Inv X pins σ (upd H p (.lst ((cs.mergeSort fun p q => decide (p.2.1 < q.2.1 ∨ (p.2.1 = q.2.1 ∧ p.2.2 ≤ q.2.2))).map My.pnV))) { s with heap := s2.heap, gens := s2.gens, drawn := s2.drawn, toks := s2.toks } :=
    I.call (ch := []) (Un.laid kept hp free) (I.hok.laid kept hp ⟨by rw [List.length_map, List.length_mergeSort, sizeLine_eq]; omega, out, c, rv, hg⟩) (by rw [g]; exact I.bare) (fun _ z => nomatch z)
  have e : s2 = { s with heap := s2.heap, gens := s2.gens, drawn := s2.drawn, toks := s2.toks } := by
    cases s2
    cases s
    cases o
    rfl
  rw [e]
  exact ⟨.ref p, _, J, rfl, q p cs perm nd few free⟩
theorem cr_setPK {P : Program} {w : World} (eP : X.prog = P) (ew : X.w = w) (calm : X.calm = true) (room : X.A.units + 64 < cLine) : CallR X (.type "set") (rSetP X.K P w) := by
  subst eP ew
  exact cr_setP calm room
theorem cr_sortedPK {P : Program} {w : World} (eP : X.prog = P) (ew : X.w = w) (calm : X.calm = true) (room : X.A.units + 64 < cLine) : CallR X (.builtin "sorted") (rSortedP X.K P w) := by
  subst eP ew
  exact cr_sortedP calm room
end
end SetP
namespace My
open PySem L2
/-! ## how a law looks whether points go around simply; begun elsewhere, backwards -/
theorem at_pt {zs : List Zp} {j : Int} {k : Nat} (h0 : (k : Int) = j + zs.length) (h1 : j < zs.length) : ∃ u ∈ zs, atI (refs zs) j = some (.ref u.1) ∧ u.2 = pt zs k := by
  have ln : (refs zs).length = zs.length := List.length_map _
  by_cases q : 0 ≤ j
  · obtain ⟨u, hu⟩ : ∃ u, zs[j.toNat]? = some u := ⟨_, List.getElem?_eq_getElem (by omega)⟩
    refine ⟨u, List.mem_of_getElem? hu, at_of (j := j.toNat) (by omega) (by rw [List.getElem?_map, hu]; rfl), ?_⟩
    rw [show k = j.toNat + zs.length by omega, pt_add, pt_at hu]
  · obtain ⟨u, hu⟩ : ∃ u, zs[k]? = some u := ⟨_, List.getElem?_eq_getElem (by omega)⟩
    refine ⟨u, List.mem_of_getElem? hu, ?_, (pt_at hu).symm⟩
    unfold atI ixN
    rw [if_neg q, if_pos (by rw [ln]; omega)]
    simp only [Option.bind_some]
    rw [show (j + ((refs zs).length : Int)).toNat = k by rw [ln]; omega, List.getElem?_map, hu]
    rfl
/-! ### begun elsewhere -/
theorem pt_turn1 {z : Zp} {r : List Zp} (i : Nat) : pt (r ++ [z]) i = pt (z :: r) (i + 1) := by
  have ln : (r ++ [z]).length = (z :: r).length := by simp
  have go : ∀ i, i < (z :: r).length → pt (r ++ [z]) i = pt (z :: r) (i + 1) := fun i hi => by
    by_cases e : i < r.length
    · obtain ⟨u, hu⟩ : ∃ u, r[i]? = some u := ⟨_, List.getElem?_eq_getElem e⟩
      rw [pt_at (z := u) (by rw [List.getElem?_append_left e]; exact hu), pt_at (z := u) (by simpa using hu)]
    · have e : i = r.length := by simp at hi; omega
      subst e
      rw [pt_at (z := z) (by simp), show r.length + 1 = 0 + (z :: r).length by simp, pt_add, pt_at (z := z) rfl]
  have m : i % (z :: r).length < (z :: r).length := Nat.mod_lt _ (by simp)
  rw [pt_mod (zs := r ++ [z]) (i := i) (j := i % (z :: r).length) (by rw [ln, Nat.mod_mod]), go _ m]
  exact pt_mod (by rw [Nat.add_mod, Nat.mod_mod, ← Nat.add_mod])
theorem Simp.turn1 {z : Zp} {r : List Zp} (h : Simp (z :: r)) : Simp (r ++ [z]) := by
  have ln : (r ++ [z]).length = (z :: r).length := by simp
  have P : ∀ k j : Nat, k = j + (z :: r).length → pt (z :: r) k = pt (z :: r) j := fun k j e => by rw [e]; exact pt_add j
  refine ⟨fun i hi => ?_, fun i hi => ?_, fun i j hij hj hn => ?_⟩
  · rw [ln] at hi
    rw [pt_turn1, pt_turn1]
    by_cases e : i + 1 < (z :: r).length
    · exact h.ne _ e
    · rw [P (i + 1) 0 (by omega), P (i + 1 + 1) (0 + 1) (by omega)]
      exact h.ne 0 (by omega)
  · rw [ln] at hi
    rw [pt_turn1, pt_turn1, pt_turn1]
    by_cases e : i + 1 < (z :: r).length
    · exact h.adj _ e
    · rw [P (i + 1) 0 (by omega), P (i + 1 + 1) (0 + 1) (by omega), P (i + 2 + 1) (0 + 2) (by omega)]
      exact h.adj 0 (by omega)
  · rw [ln] at hj hn
    rw [pt_turn1, pt_turn1, pt_turn1, pt_turn1]
    by_cases e : j + 1 < (z :: r).length
    · exact h.apart _ _ (by omega) e (by omega)
    · rw [P (j + 1) 0 (by omega), P (j + 1 + 1) (0 + 1) (by omega)]
      exact (h.apart 0 (i + 1) (by omega) (by omega) (by omega)).sym
theorem Simp.turned : ∀ (as bs : List Zp), Simp (as ++ bs) → Simp (bs ++ as)
  | [], bs, h => by rw [List.append_nil]; exact h
  | a :: as, bs, h => by
    have h1 : Simp ((as ++ bs) ++ [a]) := Simp.turn1 h
    rw [List.append_assoc] at h1
    have := Simp.turned as (bs ++ [a]) h1
    rw [List.append_assoc] at this
    exact this
/-! ### backwards -/
theorem pt_back {zs : List Zp} {i : Nat} (hi : i < 2 * zs.length) : pt zs.reverse i = pt zs (2 * zs.length - 1 - i) := by
  have go : ∀ i, i < zs.length → pt zs.reverse i = pt zs (zs.length - 1 - i) := fun i hi => by
    obtain ⟨u, hu⟩ : ∃ u, zs[zs.length - 1 - i]? = some u := ⟨_, List.getElem?_eq_getElem (by omega)⟩
    rw [pt_at hu]
    exact pt_at (by rw [List.getElem?_reverse (by omega)]; exact hu)
  by_cases e : i < zs.length
  · rw [go i e, show 2 * zs.length - 1 - i = zs.length - 1 - i + zs.length by omega, pt_add]
  · have e1 : i = i - zs.length + zs.reverse.length := by rw [List.length_reverse]; omega
    have e2 : 2 * zs.length - 1 - i = zs.length - 1 - (i - zs.length) := by omega
    rw [e1, pt_add, go _ (by omega), ← e1, e2]
theorem Adj.back {p q r : Pt} (h : Adj p q r) : Adj r q p := ⟨by rw [box_swap]; exact h.2, by rw [box_swap]; exact h.1⟩
theorem Simp.back {zs : List Zp} (l : 3 ≤ zs.length) (h : Simp zs) : Simp zs.reverse := by
  have P : ∀ k j : Nat, k = j + zs.length → pt zs k = pt zs j := fun k j e => by rw [e]; exact pt_add j
  have ln : zs.reverse.length = zs.length := List.length_reverse
  refine ⟨fun i hi => ?_, fun i hi => ?_, fun i j hij hj hn => ?_⟩
  · rw [ln] at hi
    rw [pt_back (by omega), pt_back (by omega)]
    by_cases e : i + 1 < zs.length
    · rw [P (2 * zs.length - 1 - i) (zs.length - 2 - i + 1) (by omega), P (2 * zs.length - 1 - (i + 1)) (zs.length - 2 - i) (by omega)]
      exact (h.ne _ (by omega)).symm
    · rw [show 2 * zs.length - 1 - i = zs.length - 1 + 1 by omega, show 2 * zs.length - 1 - (i + 1) = zs.length - 1 by omega]
      exact (h.ne _ (by omega)).symm
  · rw [ln] at hi
    rw [pt_back (by omega), pt_back (by omega), pt_back (by omega)]
    by_cases e : i + 2 < zs.length
    · rw [P (2 * zs.length - 1 - i) (zs.length - 3 - i + 2) (by omega), P (2 * zs.length - 1 - (i + 1)) (zs.length - 3 - i + 1) (by omega), P (2 * zs.length - 1 - (i + 2)) (zs.length - 3 - i) (by omega)]
      exact (h.adj _ (by omega)).back
    · rw [show 2 * zs.length - 1 - i = 2 * zs.length - 3 - i + 2 by omega, show 2 * zs.length - 1 - (i + 1) = 2 * zs.length - 3 - i + 1 by omega, show 2 * zs.length - 1 - (i + 2) = 2 * zs.length - 3 - i by omega]
      exact (h.adj _ (by omega)).back
  · rw [ln] at hj hn
    rw [pt_back (by omega), pt_back (by omega), pt_back (by omega), pt_back (by omega)]
    rw [P (2 * zs.length - 1 - i) (zs.length - 2 - i + 1) (by omega), P (2 * zs.length - 1 - (i + 1)) (zs.length - 2 - i) (by omega)]
    by_cases e : j + 1 < zs.length
    · rw [P (2 * zs.length - 1 - j) (zs.length - 2 - j + 1) (by omega), P (2 * zs.length - 1 - (j + 1)) (zs.length - 2 - j) (by omega)]
      exact ((h.apart (zs.length - 2 - j) (zs.length - 2 - i) (by omega) (by omega) (by omega)).swap1.swap2).sym
    · rw [show 2 * zs.length - 1 - j = zs.length - 1 + 1 by omega, show 2 * zs.length - 1 - (j + 1) = zs.length - 1 by omega]
      exact (h.apart (zs.length - 2 - i) (zs.length - 1) (by omega) (by omega) (by omega)).swap1.swap2
theorem Made.simp {zs ws : List Zp} (m : Made zs ws) (l : 3 ≤ zs.length) (h : Simp zs) : Simp ws := by
  obtain ⟨ys, j, z, e1, h1, h2, h3, rfl⟩ := m.ex
  refine Simp.turned (ys.take j) (ys.drop j) ?_
  rw [List.take_append_drop, e1]
  split
  · exact h.back l
  · exact h
/-- the ways as a law lists them: the i-th leads to the i-th point -/
structure WayAt (K : PySem.W.Frag) (H : Hp) (g : Addr) (u w : Zp) (a b : Pt) : Prop where
  t : SqT K H g [.ref u.1, .ref w.1]
  o : (u.2, w.2) = ord a b
theorem WayAt.same {K : PySem.W.Frag} {H H' : Hp} {g : Addr} {u w : Zp} {a b : Pt} (e : Same H H') (h : WayAt K H g u w a b) : WayAt K H' g u w a b := ⟨tSame e h.t, h.o⟩
/-! ### lists or tuples of points -/
def SqE (K : PySem.W.Frag) (H : Hp) (a : Addr) (xs : List V) : Prop := SqL K H a xs ∨ SqT K H a xs
section
variable {K : PySem.W.Frag} {H H' : Hp} {p : Addr} {xs : List V}
theorem SqE.same (e : Same H H') (h : SqE K H p xs) : SqE K H' p xs := h.elim (fun h => .inl (e.seq h)) fun h => .inr (tSame e h)
end
/-! ### two ways meet, step by step -/
end My
namespace My
open PySem L2
/-! ## polygons: edges, cuts -/
abbrev Eg := Pt × Pt
/-- two segments have no more in common than an end of both -/
def OK2 (a b c d : Pt) : Prop := (box a c d = true → a = c ∨ a = d) ∧ (box b c d = true → b = c ∨ b = d) ∧ (box c a b = true → c = a ∨ c = b) ∧ (box d a b = true → d = a ∨ d = b) ∧ ¬ (tn a b c * tn a b d < 0 ∧ tn c d a * tn c d b < 0)
theorem OK2.sym {a b c d : Pt} (h : OK2 a b c d) : OK2 c d a b := ⟨h.2.2.1, h.2.2.2.1, h.1, h.2.1, fun q => h.2.2.2.2 ⟨q.2, q.1⟩⟩
def Smp (X : List Eg) : Prop := ∀ e ∈ X, ∀ f ∈ X, e ≠ f → OK2 e.1 e.2 f.1 f.2
theorem Smp.sub {X Y : List Eg} (h : Smp X) (s : ∀ e ∈ Y, e ∈ X) : Smp Y := fun e he f hf n => h e (s e he) f (s f hf) n
theorem OK2.self (a b : Pt) : OK2 a b a b := by
  refine ⟨fun _ => .inl rfl, fun _ => .inr rfl, fun _ => .inl rfl, fun _ => .inr rfl, fun q => ?_⟩
  have := q.1
  rw [tn_a, Int.zero_mul] at this
  omega
theorem Smp.ok {X : List Eg} (h : Smp X) {e f : Eg} (he : e ∈ X) (hf : f ∈ X) : OK2 e.1 e.2 f.1 f.2 := by
  by_cases q : e = f
  · subst q; exact OK2.self ..
  · exact h e he f hf q
/-! weights of a point in a triangle a v b, times the triangle's own turn -/
def wA (a v b p : Pt) : Int := tn a v b * tn v b p
def wB (a v b p : Pt) : Int := tn a v b * tn b a p
def wC (a v b p : Pt) : Int := tn a v b * tn a v p
def In3 (a v b p : Pt) : Prop := 0 ≤ wA a v b p ∧ 0 ≤ wB a v b p ∧ 0 ≤ wC a v b p
theorem wA_a (a v b : Pt) : wA a v b a = tn a v b * tn a v b := by unfold wA tn turnI; grind
theorem wA_v (a v b : Pt) : wA a v b v = 0 := by unfold wA; rw [tn_a, Int.mul_zero]
theorem wA_b (a v b : Pt) : wA a v b b = 0 := by unfold wA; rw [tn_b, Int.mul_zero]
theorem wB_a (a v b : Pt) : wB a v b a = 0 := by unfold wB; rw [tn_b, Int.mul_zero]
theorem wB_v (a v b : Pt) : wB a v b v = tn a v b * tn a v b := by unfold wB tn turnI; grind
theorem wB_b (a v b : Pt) : wB a v b b = 0 := by unfold wB; rw [tn_a, Int.mul_zero]
theorem wC_a (a v b : Pt) : wC a v b a = 0 := by unfold wC; rw [tn_a, Int.mul_zero]
theorem wC_v (a v b : Pt) : wC a v b v = 0 := by unfold wC; rw [tn_b, Int.mul_zero]
theorem wC_b (a v b : Pt) : wC a v b b = tn a v b * tn a v b := rfl
theorem In3.a (a w b : Pt) : In3 a w b a := by
  refine ⟨?_, ?_, ?_⟩
  · rw [wA_a]; exact sq_nn _
  · rw [wB_a]; omega
  · rw [wC_a]; omega
theorem In3.w (a w b : Pt) : In3 a w b w := by
  refine ⟨?_, ?_, ?_⟩
  · rw [wA_v]; omega
  · rw [wB_v]; exact sq_nn _
  · rw [wC_v]; omega
theorem In3.b (a w b : Pt) : In3 a w b b := by
  refine ⟨?_, ?_, ?_⟩
  · rw [wA_b]; omega
  · rw [wB_b]; omega
  · rw [wC_b]; exact sq_nn _
end My
namespace My
open PySem L2
/-! ## what goes around simply has an area, and its sign is that of the turn at its least point -/
theorem Smp.cons {X : List Eg} {a b : Pt} (S : Smp X) (h : ∀ e ∈ X, OK2 a b e.1 e.2) : Smp ((a, b) :: X) := by
  intro e he f hf n
  rcases List.mem_cons.mp he with rfl | he <;> rcases List.mem_cons.mp hf with rfl | hf
  · exact absurd rfl n
  · exact h f hf
  · exact (h e he).sym
  · exact S e he f hf n
end My
namespace My
open PySem L2
/-! ## a row that goes around simply has an area -/
theorem Apart2.ok {a b c d : Pt} (h : Apart2 a b c d) : OK2 a b c d := ⟨fun z => by rw [h.1] at z; exact Bool.noConfusion z, fun z => by rw [h.2.1] at z; exact Bool.noConfusion z, fun z => by rw [h.2.2.1] at z; exact Bool.noConfusion z, fun z => by rw [h.2.2.2.1] at z; exact Bool.noConfusion z, h.2.2.2.2⟩
theorem Adj.ok {p q r : Pt} (h : Adj p q r) : OK2 p q q r := by
  refine ⟨fun z => by rw [h.1] at z; exact Bool.noConfusion z, fun _ => .inl rfl, fun _ => .inr rfl, fun z => by rw [h.2] at z; exact Bool.noConfusion z, fun z => ?_⟩
  have := z.1
  rw [tn_b, Int.zero_mul] at this
  omega
theorem Simp.inj {zs : List Zp} (S : Simp zs) {i j : Nat} (hij : i < j) (hj : j < zs.length) : pt zs i ≠ pt zs j := by
  intro z
  by_cases c : j = i + 1
  · subst c; exact S.ne i (by omega) z
  · by_cases d : i = 0 ∧ j + 1 = zs.length
    · obtain ⟨rfl, d⟩ := d
      refine S.ne j hj ?_
      rw [← z, d]
      have := pt_add (zs := zs) 0
      rw [Nat.zero_add] at this
      exact this.symm
    · have := (S.apart i j (by omega) hj d).1
      rw [z, box_l (S.ne j hj)] at this
      cases this
end My
namespace My
open PySem L2
/-! ## rows of points that are one row, begun elsewhere or backwards -/
abbrev crd (zs : List Zp) : List Pt := zs.map fun z => z.2
end My
namespace My
open PySem L2
/-! ## chains that turn left -/
theorem int_or (a b : Int) : a < b ∨ b ≤ a := by omega
def cx2 (u v : Pt) : Int := u.1 * v.2 - u.2 * v.1
def fwd (u : Pt) : Prop := 0 < u.1 ∨ (u.1 = 0 ∧ 0 < u.2)
theorem crs3 (u v w : Pt) : v.1 * cx2 u w = w.1 * cx2 u v + u.1 * cx2 v w := by unfold cx2; grind
theorem pos_of_mul {a b : Int} (h : 0 < a) (g : 0 < a * b) : 0 < b := by
  rcases int_or 0 b with q | q
  · exact q
  · have := Int.mul_le_mul_of_nonneg_left q (Int.le_of_lt h)
    omega
theorem nonneg_of_mul {a b : Int} (h : 0 < a) (g : 0 ≤ a * b) : 0 ≤ b := by
  rcases int_or b 0 with q | q
  · have := Int.mul_neg_of_pos_of_neg h q
    omega
  · exact q
theorem fwd_nn {u : Pt} (h : fwd u) : 0 ≤ u.1 := by unfold fwd at h; omega
theorem turns2 {u v w : Pt} (hu : fwd u) (hv : fwd v) (hw : fwd w) (h1 : 0 ≤ cx2 u v) (h2 : 0 < cx2 v w) : 0 < cx2 u w := by
  have I := crs3 u v w
  have w0 := fwd_nn hw
  have a1 := Int.mul_nonneg w0 h1
  rcases hv with hv | ⟨hv, hv2⟩
  · refine pos_of_mul hv ?_
    rcases hu with hu | ⟨hu, hu2⟩
    · have := Int.mul_pos hu h2
      omega
    · exfalso
      have := Int.mul_pos hu2 hv
      unfold cx2 at h1
      rw [hu, Int.zero_mul] at h1
      omega
  · exfalso
    have := Int.mul_nonneg (Int.le_of_lt hv2) w0
    unfold cx2 at h2
    rw [hv, Int.zero_mul] at h2
    omega
theorem turns3 {u v w : Pt} (hu : fwd u) (hv : fwd v) (hw : fwd w) (h1 : 0 < cx2 u v) (h2 : 0 ≤ cx2 v w) : 0 < cx2 u w := by
  have I := crs3 u v w
  have w0 := fwd_nn hw
  have u0 := fwd_nn hu
  rcases hv with hv | ⟨hv, hv2⟩
  · refine pos_of_mul hv ?_
    have a2 := Int.mul_nonneg u0 h2
    rcases hw with hw | ⟨hw, hw2⟩
    · have := Int.mul_pos hw h1
      omega
    · have h3 : 0 < cx2 v w := by
        unfold cx2
        rw [hw, Int.mul_zero]
        have := Int.mul_pos hv hw2
        omega
      rcases hu with hu | ⟨hu, hu2⟩
      · have := Int.mul_pos hu h3
        rw [hw, Int.zero_mul] at I
        omega
      · exfalso
        have := Int.mul_pos hu2 hv
        unfold cx2 at h1
        rw [hu, Int.zero_mul] at h1
        omega
  · have e1 : cx2 u v = u.1 * v.2 := by unfold cx2; rw [hv, Int.mul_zero, Int.sub_zero]
    have e2 : cx2 v w = 0 - v.2 * w.1 := by unfold cx2; rw [hv, Int.zero_mul]
    have u1 : 0 < u.1 := by
      rcases int_or 0 u.1 with q | q
      · exact q
      · have : u.1 = 0 := by omega
        rw [e1, this, Int.zero_mul] at h1
        omega
    have w1 : w.1 = 0 := by
      rcases int_or 0 w.1 with q | q
      · have := Int.mul_pos hv2 q
        omega
      · omega
    have w2 : 0 < w.2 := by unfold fwd at hw; omega
    unfold cx2
    rw [w1, Int.mul_zero]
    have := Int.mul_pos u1 w2
    omega
theorem turns4 {u v w : Pt} (hu : fwd u) (hv : fwd v) (hw : fwd w) (h1 : 0 ≤ cx2 u v) (h2 : 0 ≤ cx2 v w) : 0 ≤ cx2 u w := by
  have I := crs3 u v w
  have w0 := fwd_nn hw
  have u0 := fwd_nn hu
  have a1 := Int.mul_nonneg w0 h1
  have a2 := Int.mul_nonneg u0 h2
  rcases hv with hv | ⟨hv, hv2⟩
  · exact nonneg_of_mul hv (by omega)
  · have e2 : cx2 v w = 0 - v.2 * w.1 := by unfold cx2; rw [hv, Int.zero_mul]
    have w1 : w.1 = 0 := by
      rcases int_or 0 w.1 with q | q
      · have := Int.mul_pos hv2 q
        omega
      · omega
    have w2 : 0 < w.2 := by unfold fwd at hw; omega
    unfold cx2
    rw [w1, Int.mul_zero]
    have := Int.mul_nonneg u0 (Int.le_of_lt w2)
    omega
def way (a b : Pt) : Pt := (b.1 - a.1, b.2 - a.2)
theorem lt_fwd {a b : Pt} (h : lt a b = true) : fwd (way a b) := by
  have := of_decide_eq_true h
  unfold fwd way
  dsimp only
  omega
theorem tn_crs (a b c : Pt) : tn a b c = cx2 (way a b) (way b c) := by unfold tn turnI cx2 way; grind
/-- a chain goes on -/
theorem ch1 {a b c p : Pt} (l1 : lt a b = true) (l2 : lt b c = true) (l3 : lt c p = true) (h1 : 0 < tn a b c) (h2 : 0 < tn b c p) : 0 < tn a b p := by
  rw [tn_crs] at h1 h2
  have := turns3 (lt_fwd l1) (lt_fwd l2) (lt_fwd l3) h1 (Int.le_of_lt h2)
  have e : tn a b p = cx2 (way a b) (way b c) + cx2 (way a b) (way c p) := by unfold tn turnI cx2 way; grind
  omega
/-- a point before the last corner -/
theorem ch2 {z b p q : Pt} (l1 : lt z b = true) (l2 : lt b p = true) (l3 : lt q b = true) (h1 : 0 ≤ tn z b q) (h2 : 0 < tn z b p) : 0 < tn b p q := by
  rw [tn_crs] at h2
  have e1 : tn z b q = cx2 (way q b) (way z b) := by unfold tn turnI cx2 way; grind
  have e2 : tn b p q = cx2 (way q b) (way b p) := by unfold tn turnI cx2 way; grind
  rw [e1] at h1
  rw [e2]
  exact turns2 (lt_fwd l3) (lt_fwd l1) (lt_fwd l2) h1 h2
/-- a corner is dropped: points behind it -/
theorem ch3 {b c p q : Pt} (h1 : tn b c p ≤ 0) (h2 : 0 ≤ tn c p q) (h3 : 0 ≤ tn b c q) : 0 ≤ tn b p q := by
  have e : tn b p q = tn c p q + tn b c q - tn b c p := by unfold tn turnI; grind
  omega
/-- a corner is dropped: points before it -/
theorem ch4 {b c p q : Pt} (l1 : lt b c = true) (l2 : lt c p = true) (l3 : lt b q = true) (h1 : tn b c p ≤ 0) (h2 : 0 ≤ tn b c q) : 0 ≤ tn b p q := by
  have e1 : tn b c p = 0 - cx2 (way c p) (way b c) := by unfold tn turnI cx2 way; grind
  have e2 : tn b c q = cx2 (way b c) (way b q) := by unfold tn turnI cx2 way; grind
  have e3 : tn b p q = cx2 (way b c) (way b q) + cx2 (way c p) (way b q) := by unfold tn turnI cx2 way; grind
  rw [e2] at h2
  have := turns4 (lt_fwd l2) (lt_fwd l1) (lt_fwd l3) (by omega) h2
  omega
/-- a point behind an edge of a chain -/
theorem ch5 {a b c q : Pt} (l1 : lt a b = true) (l2 : lt b c = true) (l3 : lt b q = true) (h1 : 0 < tn a b c) (h2 : 0 ≤ tn b c q) : 0 < tn a b q := by
  rw [tn_crs] at h1
  have e1 : tn b c q = cx2 (way b c) (way b q) := by unfold tn turnI cx2 way; grind
  have e2 : tn a b q = cx2 (way a b) (way b q) := by unfold tn turnI cx2 way; grind
  rw [e1] at h2
  rw [e2]
  exact turns3 (lt_fwd l1) (lt_fwd l2) (lt_fwd l3) h1 h2
/-! ### the chain, its last corner first -/
def popR (p : Pt) : List Pt → List Pt
  | c :: b :: r => if tn b c p ≤ 0 then popR p (b :: r) else c :: b :: r
  | l => l
/-- a chain of which the points S are left or on -/
def Conv (S : List Pt) : List Pt → Prop
  | c :: b :: r => lt b c = true ∧ (∀ q ∈ S, 0 ≤ tn b c q) ∧ (∀ a, r.head? = some a → 0 < tn a b c) ∧ Conv S (b :: r)
  | [c] => ∀ q ∈ S, lt q c = false
  | [] => True
theorem popR_ok {S : List Pt} {p : Pt} (hp : ∀ q ∈ S, lt q p = true) : ∀ (r : List Pt) (c : Pt), c ∈ S → (∀ x ∈ r, x ∈ S) → Conv S (c :: r) → (∀ q ∈ S, lt c q = true → 0 ≤ tn c p q) →
    ∃ c' r', popR p (c :: r) = c' :: r' ∧ (c' :: r') <:+ (c :: r) ∧ Conv S (c' :: r') ∧ (∀ q ∈ S, lt c' q = true → 0 ≤ tn c' p q) ∧ (∀ a, r'.head? = some a → 0 < tn a c' p)
  | [], c, hc, hr, hC, hq => ⟨c, [], rfl, List.suffix_refl _, hC, hq, fun a h => by cases h⟩
  | b :: r, c, hc, hr, hC, hq => by
    obtain ⟨l1, l2, l3, l4⟩ := hC
    by_cases q : tn b c p ≤ 0
    · have hb := hr b (by simp)
      obtain ⟨c', r', e, s, g1, g2, g3⟩ := popR_ok hp r b hb (fun x hx => hr x (by simp [hx])) l4 fun x hx lx => by
        by_cases e : lt c x = true
        · exact ch3 q (hq x hx e) (l2 x hx)
        · by_cases e2 : lt x c = true
          · exact ch4 l1 (hp c hc) lx q (l2 x hx)
          · have ex : c = x := lt_tri (by simpa using e2) (by simpa using e) |>.symm ▸ rfl
            subst ex
            have : tn b p c = 0 - tn b c p := by unfold tn turnI; grind
            omega
      refine ⟨c', r', ?_, s.trans (List.suffix_cons _ _), g1, g2, g3⟩
      show (if tn b c p ≤ 0 then popR p (b :: r) else c :: b :: r) = _
      rw [if_pos q]
      exact e
    · refine ⟨c, b :: r, ?_, List.suffix_refl _, ⟨l1, l2, l3, l4⟩, hq, fun a h => ?_⟩
      · show (if tn b c p ≤ 0 then popR p (b :: r) else c :: b :: r) = _
        rw [if_neg q]
      · cases h
        omega
/-- a further point behind the chain -/
theorem Conv.more {S : List Pt} {p : Pt} : ∀ (r : List Pt) (c : Pt), Conv S (c :: r) → lt c p = true → (∀ a, r.head? = some a → 0 < tn a c p) → Conv (p :: S) (c :: r)
  | [], c, h, l, t => fun q hq => by
    rcases List.mem_cons.mp hq with rfl | hq
    · exact lt_le l
    · exact h q hq
  | b :: r, c, h, l, t => by
    obtain ⟨l1, l2, l3, l4⟩ := h
    have t1 := t b rfl
    refine ⟨l1, fun q hq => ?_, l3, Conv.more r b l4 ?_ fun a ha => ?_⟩
    · rcases List.mem_cons.mp hq with rfl | hq
      · omega
      · exact l2 q hq
    · exact lt_trans l1 l
    · have la : lt a b = true := by
        cases r with
        | nil => cases ha
        | cons x r => cases ha; exact l4.1
      exact ch1 la l1 l (l3 a ha) t1
theorem Conv.push {S : List Pt} {p : Pt} {st : List Pt} (hp : ∀ q ∈ S, lt q p = true) (sub : ∀ x ∈ st, x ∈ S) (top : ∀ c, st.head? = some c → ∀ q ∈ S, lt c q = false) (h : Conv S st) (ne : S ≠ [] → st ≠ []) : Conv (p :: S) (p :: popR p st) := by
  cases st with
  | nil =>
    have e : S = [] := by
      cases S with
      | nil => rfl
      | cons x S => exact absurd rfl (ne (by simp))
    subst e
    intro q hq
    rw [List.mem_singleton] at hq
    subst hq
    exact lt_irr _
  | cons c r =>
    obtain ⟨c', r', e, s, g1, g2, g3⟩ := popR_ok hp r c (sub c (by simp)) (fun x hx => sub x (by simp [hx])) h fun q hq l => by
      rw [top c rfl q hq] at l
      cases l
    rw [e]
    have lc := hp c' (sub c' (s.subset (by simp)))
    refine ⟨lc, fun q hq => ?_, g3, g1.more r' c' lc g3⟩
    rcases List.mem_cons.mp hq with rfl | hq
    · have : tn c' q q = 0 := by unfold tn turnI; grind
      omega
    · by_cases e1 : lt c' q = true
      · exact g2 q hq e1
      · by_cases e2 : lt q c' = true
        · cases r' with
          | nil =>
            rw [g1 q hq] at e2
            cases e2
          | cons a r' =>
            exact Int.le_of_lt (ch2 g1.1 lc e2 (g1.2.1 q hq) (g3 a rfl))
        · have ex : q = c' := lt_tri (by simpa using e2) (by simpa using e1)
          subst ex
          have : tn q p q = 0 := by unfold tn turnI; grind
          omega
/-- each edge: all points left or on; those on it between its ends -/
def EdgeOk (S : List Pt) (b c : Pt) : Prop := ∀ q ∈ S, 0 ≤ tn b c q ∧ (tn b c q = 0 → lt q b = false ∧ lt c q = false)
theorem Conv.edge {S : List Pt} : ∀ (u : List Pt) (b c : Pt) (v : List Pt), Conv S (u ++ c :: b :: v) → (∀ e, (u ++ c :: b :: v).head? = some e → ∀ q ∈ S, lt e q = false) → EdgeOk S b c ∧ lt b c = true ∧ (∀ d, u.getLast? = some d → lt c d = true ∧ 0 < tn b c d ∧ ∀ q ∈ S, 0 ≤ tn c d q)
  | [], b, c, v, h, top => by
    obtain ⟨l1, l2, l3, l4⟩ := h
    refine ⟨fun q hq => ⟨l2 q hq, fun z => ⟨?_, top c rfl q hq⟩⟩, l1, fun d hd => by cases hd⟩
    cases v with
    | nil => exact l4 q hq
    | cons a v =>
      refine Bool.eq_false_iff.mpr fun w => ?_
      have := ch2 l4.1 l1 w (l4.2.1 q hq) (l3 a rfl)
      omega
  | [d], b, c, v, h, top => by
    obtain ⟨m1, m2, m3, l1, l2, l3, l4⟩ := h
    have t := m3 b rfl
    refine ⟨fun q hq => ⟨l2 q hq, fun z => ⟨?_, ?_⟩⟩, l1, fun e he => by cases he; exact ⟨m1, t, m2⟩⟩
    · cases v with
      | nil => exact l4 q hq
      | cons a v =>
        refine Bool.eq_false_iff.mpr fun w => ?_
        have := ch2 l4.1 l1 w (l4.2.1 q hq) (l3 a rfl)
        omega
    · refine Bool.eq_false_iff.mpr fun w => ?_
      have := ch5 l1 m1 w t (m2 q hq)
      omega
  | x :: d :: u, b, c, v, h, top => by
    -- the head is not needed any more: the edge below has one above it
    have go : ∀ (u : List Pt) (d b c : Pt) (v : List Pt), Conv S (d :: u ++ c :: b :: v) → EdgeOk S b c ∧ lt b c = true ∧ ∀ e, (d :: u).getLast? = some e → lt c e = true ∧ 0 < tn b c e ∧ ∀ q ∈ S, 0 ≤ tn c e q := by
      intro u
      induction u with
      | nil =>
        intro d b c v h
        obtain ⟨m1, m2, m3, l1, l2, l3, l4⟩ := h
        have t := m3 b rfl
        refine ⟨fun q hq => ⟨l2 q hq, fun z => ⟨?_, ?_⟩⟩, l1, fun e he => by cases he; exact ⟨m1, t, m2⟩⟩
        · cases v with
          | nil => exact l4 q hq
          | cons a v =>
            refine Bool.eq_false_iff.mpr fun w => ?_
            have := ch2 l4.1 l1 w (l4.2.1 q hq) (l3 a rfl)
            omega
        · refine Bool.eq_false_iff.mpr fun w => ?_
          have := ch5 l1 m1 w t (m2 q hq)
          omega
      | cons y u ih =>
        intro d b c v h
        obtain ⟨g1, g2, g3⟩ := ih y b c v h.2.2.2
        refine ⟨g1, g2, fun e he => g3 e ?_⟩
        rw [List.getLast?_cons_cons] at he
        exact he
    obtain ⟨g1, g2, g3⟩ := go u d b c v h.2.2.2
    refine ⟨g1, g2, fun e he => g3 e ?_⟩
    rw [List.getLast?_cons_cons] at he
    exact he
theorem popR_suffix (p : Pt) : ∀ st, popR p st <:+ st
  | [] => List.suffix_refl _
  | [c] => List.suffix_refl _
  | c :: b :: r => by
    show (if tn b c p ≤ 0 then popR p (b :: r) else c :: b :: r) <:+ _
    split
    · exact (popR_suffix p (b :: r)).trans (List.suffix_cons _ _)
    · exact List.suffix_refl _
theorem popR_ne (p : Pt) : ∀ r c, popR p (c :: r) ≠ []
  | [], c => by simp [popR]
  | b :: r, c => by
    show (if tn b c p ≤ 0 then popR p (b :: r) else c :: b :: r) ≠ []
    split
    · exact popR_ne p r b
    · simp
/-- the chain of the points R, the last of them first -/
def chainS : List Pt → List Pt
  | [] => []
  | p :: R => p :: popR p (chainS R)
theorem suffix_last {l m : List Pt} (h : l <:+ m) (ne : l ≠ []) : l.getLast? = m.getLast? := by
  obtain ⟨t, rfl⟩ := h
  rw [List.getLast?_append]
  cases e : l.getLast? with
  | none => exact absurd (List.getLast?_eq_none_iff.mp e) ne
  | some x => rfl
structure ChainOk (R st : List Pt) : Prop where
  conv : Conv R st
  sub : ∀ x ∈ st, x ∈ R
  head : st.head? = R.head?
  last : st.getLast? = R.getLast?
  desc : st.Pairwise fun a b => lt b a = true
theorem head_top {R : List Pt} (h : R.Pairwise fun a b => lt b a = true) : ∀ c, R.head? = some c → ∀ q ∈ R, lt c q = false := fun c hc q hq => by
  cases R with
  | nil => cases hc
  | cons x R =>
    cases hc
    rcases List.mem_cons.mp hq with rfl | hq
    · exact lt_irr _
    · exact lt_le ((List.pairwise_cons.mp h).1 q hq)
theorem chainS_ok : ∀ R : List Pt, (R.Pairwise fun a b => lt b a = true) → ChainOk R (chainS R)
  | [], _ => ⟨True.intro, fun x h => h, rfl, rfl, .nil⟩
  | p :: R, h => by
    obtain ⟨h1, h2⟩ := List.pairwise_cons.mp h
    have C := chainS_ok R h2
    have ne : R ≠ [] → chainS R ≠ [] := fun n z => by
      cases R with
      | nil => exact n rfl
      | cons x R => cases z
    have sub : ∀ x ∈ popR p (chainS R), x ∈ R := fun x hx => C.sub x ((popR_suffix p _).subset hx)
    refine ⟨C.conv.push h1 C.sub (fun c hc => head_top h2 c (by rw [← C.head]; exact hc)) ne, fun x hx => ?_, rfl, ?_, ?_⟩
    · rcases List.mem_cons.mp hx with rfl | hx
      · simp
      · exact List.mem_cons_of_mem _ (sub x hx)
    · show (p :: popR p (chainS R)).getLast? = _
      cases R with
      | nil => rfl
      | cons x R =>
        have n1 : popR p (chainS (x :: R)) ≠ [] := popR_ne _ _ _
        obtain ⟨y, r, e⟩ : ∃ y r, popR p (chainS (x :: R)) = y :: r := by
          cases q : popR p (chainS (x :: R)) with
          | nil => exact absurd q n1
          | cons y r => exact ⟨y, r, rfl⟩
        rw [e, List.getLast?_cons_cons, List.getLast?_cons_cons, ← e, suffix_last (popR_suffix _ _) n1, C.last]
    · exact List.pairwise_cons.mpr ⟨fun x hx => h1 x (sub x hx), C.desc.sublist (popR_suffix p _).sublist⟩
/-! ### the other way -/
def neg (p : Pt) : Pt := (-p.1, -p.2)
theorem tn_neg (a b c : Pt) : tn (neg a) (neg b) (neg c) = tn a b c := by unfold tn turnI neg; grind
theorem lt_neg (a b : Pt) : lt (neg a) (neg b) = lt b a := decide_eq_decide.mpr (by unfold neg; dsimp only; omega)
theorem popR_neg (p : Pt) : ∀ st, popR (neg p) (st.map neg) = (popR p st).map neg
  | [] => rfl
  | [c] => rfl
  | c :: b :: r => by
    show (if tn (neg b) (neg c) (neg p) ≤ 0 then popR (neg p) ((b :: r).map neg) else (c :: b :: r).map neg) = List.map neg (if tn b c p ≤ 0 then popR p (b :: r) else c :: b :: r)
    rw [tn_neg, popR_neg p (b :: r)]
    split <;> rfl
theorem chainS_neg : ∀ R, chainS (R.map neg) = (chainS R).map neg
  | [] => rfl
  | p :: R => by
    show neg p :: popR (neg p) (chainS (R.map neg)) = neg p :: (popR p (chainS R)).map neg
    rw [chainS_neg R, popR_neg]
end My
namespace My
open PySem L2
/-! ## the hull: the way around, corner by corner -/
def d1 (a q : Pt) : Nat := (q.1 - a.1).natAbs + (q.2 - a.2).natAbs
theorem dist_le {b c q : Pt} (l : lt b c = true) (z : tn b c q = 0) (h1 : lt q b = false) (h2 : lt c q = false) : d1 b q ≤ d1 b c ∧ (d1 b q = d1 b c → q = c) := by
  have l := of_decide_eq_true l
  have h1 := of_decide_eq_false h1
  have h2 := of_decide_eq_false h2
  have e : (c.1 - b.1) * (q.2 - b.2) = (c.2 - b.2) * (q.1 - b.1) := by unfold tn turnI at z; omega
  obtain ⟨bx, dy⟩ := b
  obtain ⟨cx, cy⟩ := c
  obtain ⟨qx, qy⟩ := q
  unfold d1
  dsimp only at *
  rcases int_or bx cx with p | p
  · have n := congrArg Int.natAbs e
    rw [Int.natAbs_mul, Int.natAbs_mul] at n
    have m : (qx - bx).natAbs ≤ (cx - bx).natAbs := by omega
    have p0 : 0 < (cx - bx).natAbs := by omega
    have s1 : (cx - bx).natAbs * (qy - dy).natAbs ≤ (cx - bx).natAbs * (cy - dy).natAbs := by
      rw [n, Nat.mul_comm (cx - bx).natAbs]
      exact Nat.mul_le_mul_left _ m
    have s2 := Nat.le_of_mul_le_mul_left s1 p0
    refine ⟨by omega, fun g => ?_⟩
    have ex : qx = cx := by omega
    subst ex
    rw [Int.mul_comm] at e
    have := Int.eq_of_mul_eq_mul_right (show qx - bx ≠ 0 by omega) e
    rw [show qy = cy by omega]
  · have ex : qx = bx := by omega
    have ec : cx = bx := by omega
    subst ex ec
    refine ⟨by omega, fun g => ?_⟩
    rw [show qy = cy by omega]
/-- the next corner -/
structure Nx (S : List Pt) (a t : Pt) : Prop where
  mem : t ∈ S
  ne : t ≠ a
  all : ∀ q ∈ S, 0 ≤ tn a t q ∧ (tn a t q = 0 → d1 a q ≤ d1 a t ∧ (d1 a q = d1 a t → q = t))
theorem Nx.unique {S S' : List Pt} {a t t' : Pt} (h : Nx S a t) (g : Nx S' a t') (e : ∀ x, x ∈ S ↔ x ∈ S') : t = t' := by
  have h1 := h.all t' ((e t').mpr g.mem)
  have g1 := g.all t ((e t).mp h.mem)
  have s : tn a t' t = 0 - tn a t t' := by unfold tn turnI; grind
  have z : tn a t t' = 0 := by omega
  obtain ⟨h2, h3⟩ := h1.2 z
  obtain ⟨g2, g3⟩ := g1.2 (by omega)
  exact g3 (by omega)
/-- the hull of S, begun at its least point -/
structure Wrap (S h : List Pt) : Prop where
  sub : ∀ x ∈ h, x ∈ S
  few : h.length ≤ S.length
  least : ∃ r L, h = L :: r ∧ (∀ q ∈ S, lt q L = false) ∧ L ∉ r
  one : h.length = 1 → ∀ q ∈ S, [q] = h
  next : 2 ≤ h.length → ∀ j a t, h[j]? = some a → (h ++ h.take 1)[j + 1]? = some t → Nx S a t
theorem Wrap.self {S h : List Pt} (W : Wrap S h) : Wrap h h := by
  obtain ⟨r, L, e, h1, h2⟩ := W.least
  refine ⟨fun x hx => hx, Nat.le_refl _, ⟨r, L, e, fun q hq => h1 q (W.sub q hq), h2⟩, fun o q hq => W.one o q (W.sub q hq), fun o j a t ha ht => ?_⟩
  have n := W.next o j a t ha ht
  refine ⟨?_, n.ne, fun q hq => n.all q (W.sub q hq)⟩
  rcases List.mem_append.mp (List.mem_of_getElem? ht) with g | g
  · exact g
  · exact List.mem_of_mem_take g
theorem Wrap.unique {S S' h h' : List Pt} (W : Wrap S h) (V : Wrap S' h') (e : ∀ x, x ∈ S ↔ x ∈ S') : h = h' := by
  obtain ⟨r, L, eh, h1, h2⟩ := W.least
  obtain ⟨r', L', eh', g1, g2⟩ := V.least
  have mL : L ∈ S := W.sub L (by rw [eh]; simp)
  have mL' : L' ∈ S' := V.sub L' (by rw [eh']; simp)
  have eL : L = L' := lt_tri (g1 L ((e L).mp mL)) (h1 L' ((e L').mpr mL'))
  subst eL
  -- one of one corner
  have single : ∀ {S S' h h' r r' : List Pt} (W : Wrap S h) (V : Wrap S' h') (e : ∀ x, x ∈ S ↔ x ∈ S') (eh : h = L :: r) (eh' : h' = L :: r'), r = [] → h = h' := fun {S S' h h' r r'} W V e eh eh' er => by
    subst er
    cases r' with
    | nil => rw [eh, eh']
    | cons x r' =>
      exfalso
      have n := V.next (by rw [eh']; simp) 0 L x (by rw [eh']; rfl) (by rw [eh']; rfl)
      have := W.one (by rw [eh]; rfl) x ((e x).mpr n.mem)
      rw [eh] at this
      injection this with this
      exact n.ne this
  by_cases er : r = []
  · exact single W V e eh eh' er
  by_cases er' : r' = []
  · exact (single V W (fun x => (e x).symm) eh' eh er').symm
  have two : 2 ≤ h.length := by
    cases r with
    | nil => exact absurd rfl er
    | cons x r => rw [eh]; simp
  have two' : 2 ≤ h'.length := by
    cases r' with
    | nil => exact absurd rfl er'
    | cons x r => rw [eh']; simp
  have step : ∀ j, j < h.length → j < h'.length → h[j]? = h'[j]? := by
    intro j
    induction j with
    | zero => intro _ _; rw [eh, eh']; rfl
    | succ j ih =>
      intro a b
      have i := ih (by omega) (by omega)
      obtain ⟨x, hx⟩ : ∃ x, h[j]? = some x := ⟨_, List.getElem?_eq_getElem (by omega)⟩
      obtain ⟨y, hy⟩ : ∃ y, h[j + 1]? = some y := ⟨_, List.getElem?_eq_getElem a⟩
      obtain ⟨y', hy'⟩ : ∃ y, h'[j + 1]? = some y := ⟨_, List.getElem?_eq_getElem b⟩
      have n1 := W.next two j x y hx (by rw [List.getElem?_append_left a]; exact hy)
      have n2 := V.next two' j x y' (by rw [← i]; exact hx) (by rw [List.getElem?_append_left b]; exact hy')
      rw [hy, hy', n1.unique n2 e]
  -- neither ends before the other
  have ends : ∀ {S S' h h' r r' : List Pt} (W : Wrap S h) (V : Wrap S' h') (e : ∀ x, x ∈ S ↔ x ∈ S') (eh : h = L :: r) (eh' : h' = L :: r') (g2 : L ∉ r') (two : 2 ≤ h.length) (two' : 2 ≤ h'.length) (step : ∀ j, j < h.length → j < h'.length → h[j]? = h'[j]?), ¬ h.length < h'.length := fun {S S' h h' r r'} W V e eh eh' g2 two two' step lt_ => by
    obtain ⟨x, hx⟩ : ∃ x, h[h.length - 1]? = some x := ⟨_, List.getElem?_eq_getElem (by omega)⟩
    obtain ⟨y', hy'⟩ : ∃ y, h'[h.length]? = some y := ⟨_, List.getElem?_eq_getElem lt_⟩
    have n1 := W.next two (h.length - 1) x L hx (by
      rw [show h.length - 1 + 1 = h.length by omega, List.getElem?_append_right (Nat.le_refl _), Nat.sub_self, eh]
      rfl)
    have n2 := V.next two' (h.length - 1) x y' (by rw [← step (h.length - 1) (by omega) (by omega)]; exact hx) (by
      rw [show h.length - 1 + 1 = h.length by omega, List.getElem?_append_left lt_]
      exact hy')
    have z := n1.unique n2 e
    subst z
    rw [eh'] at hy'
    rw [show h.length = h.length - 1 + 1 by omega, List.getElem?_cons_succ] at hy'
    exact g2 (List.mem_of_getElem? hy')
  have le1 := ends W V e eh eh' g2 two two' step
  have le2 := ends V W (fun x => (e x).symm) eh' eh h2 two' two fun j a b => (step j b a).symm
  refine List.ext_getElem? fun j => ?_
  by_cases q : j < h.length
  · exact step j q (by omega)
  · rw [List.getElem?_eq_none (by omega), List.getElem?_eq_none (by omega)]
/-! ### the two chains make it -/
theorem nodup_len : ∀ {l m : List Pt}, l.Nodup → (∀ x ∈ l, x ∈ m) → l.length ≤ m.length
  | [], _, _, _ => Nat.zero_le _
  | x :: l, m, h, s => by
    obtain ⟨h1, h2⟩ := List.nodup_cons.mp h
    obtain ⟨u, t, rfl⟩ := List.append_of_mem (s x (by simp))
    have := nodup_len (m := u ++ t) h2 fun y hy => by
      have := s y (by simp [hy])
      rw [List.mem_append, List.mem_cons] at this
      rw [List.mem_append]
      rcases this with a | rfl | a
      · exact .inl a
      · exact absurd hy h1
      · exact .inr a
    rw [List.length_append] at this ⊢
    rw [List.length_cons, List.length_cons]
    omega
theorem asc_nodup {l : List Pt} (h : l.Pairwise fun a b => lt b a = true) : l.Nodup := by
  rw [List.nodup_iff_pairwise_ne]
  exact h.imp fun {a b} l e => by rw [e, lt_irr] at l; cases l
theorem nodup_rev {l : List Pt} (h : l.Nodup) : l.reverse.Nodup := (List.reverse_perm l).nodup_iff.mpr h
theorem in_init {x : Pt} {l : List Pt} (h : x ∈ l.dropLast) : ∃ u y v, l = u ++ x :: y :: v := by
  have ne : l ≠ [] := fun e => by rw [e] at h; cases h
  obtain ⟨s, t, e⟩ := List.append_of_mem h
  have e2 := List.dropLast_concat_getLast ne
  rw [e, List.append_assoc, List.cons_append] at e2
  cases q : t ++ [l.getLast ne] with
  | nil => simp at q
  | cons y v => exact ⟨s, y, v, by rw [← e2, q]⟩
theorem no_both {b1 x y a1 : Pt} (l1 : lt b1 x = true) (l2 : lt x y = true) (l3 : lt x a1 = true) (h1 : 0 < tn b1 x y) (h2 : 0 ≤ tn a1 x b1) (h3 : 0 ≤ tn x y a1) : False := by
  rw [tn_crs] at h1
  have e2 : tn a1 x b1 = cx2 (way x a1) (way b1 x) := by unfold tn turnI cx2 way; grind
  have e3 : tn x y a1 = 0 - cx2 (way x a1) (way x y) := by unfold tn turnI cx2 way; grind
  rw [e2] at h2
  have := turns2 (lt_fwd l3) (lt_fwd l1) (lt_fwd l2) h2 h1
  omega
theorem adj_split {x y R : Pt} {D A' u v : List Pt} (h : D ++ R :: A' = u ++ x :: y :: v) : (∃ v', D ++ [R] = u ++ x :: y :: v') ∨ ∃ u', R :: A' = u' ++ x :: y :: v := by
  rcases List.append_eq_append_iff.mp h with ⟨a, rfl, e⟩ | ⟨c, rfl, e⟩
  · cases a with
    | nil => exact .inr ⟨[], e⟩
    | cons z a => exact .inr ⟨z :: a, e⟩
  · cases c with
    | nil => exact .inr ⟨[], e.symm⟩
    | cons z c =>
      injection e with e1 e2
      subst e1
      cases c with
      | nil =>
        injection e2 with e3 e4
        subst e3
        exact .inl ⟨[], by simp⟩
      | cons w c =>
        injection e2 with e3 e4
        subst e3
        exact .inl ⟨c ++ [R], by simp⟩
theorem neg_neg_ (p : Pt) : neg (neg p) = p := by
  obtain ⟨x, y⟩ := p
  show (- -x, - -y) = (x, y)
  rw [Int.neg_neg, Int.neg_neg]
theorem neg_inj {p q : Pt} (h : neg p = neg q) : p = q := by rw [← neg_neg_ p, h, neg_neg_]
theorem mem_neg {p : Pt} {l : List Pt} : neg p ∈ l.map neg ↔ p ∈ l := ⟨fun h => by
  obtain ⟨q, hq, e⟩ := List.mem_map.mp h
  rw [← neg_inj e]
  exact hq, fun h => List.mem_map.mpr ⟨p, h, rfl⟩⟩
theorem d1_neg (a q : Pt) : d1 (neg a) (neg q) = d1 a q := by unfold d1 neg; dsimp only; omega
theorem split_at {l : List Pt} {j : Nat} {a t : Pt} (h : l[j]? = some a) (g : l[j + 1]? = some t) : ∃ u v, l = u ++ a :: t :: v := by
  obtain ⟨hi, e1⟩ := List.getElem?_eq_some_iff.mp h
  obtain ⟨hj, e2⟩ := List.getElem?_eq_some_iff.mp g
  refine ⟨l.take j, l.drop (j + 2), ?_⟩
  have h1 := List.drop_eq_getElem_cons hi
  have h2 := List.drop_eq_getElem_cons hj
  rw [e1] at h1
  rw [e2] at h2
  rw [← h2, ← h1, List.take_append_drop]
section
variable {pl : List Pt}
theorem lower (asc : pl.Pairwise fun a b => lt a b = true) {u v : List Pt} {a t : Pt} (e : (chainS pl.reverse).reverse = u ++ a :: t :: v) : EdgeOk pl a t ∧ lt a t = true ∧ ∀ d, v.head? = some d → lt t d = true ∧ 0 < tn a t d ∧ ∀ q ∈ pl, 0 ≤ tn t d q := by
  have dsc : pl.reverse.Pairwise fun a b => lt b a = true := List.pairwise_reverse.mpr asc
  have C := chainS_ok pl.reverse dsc
  have es : chainS pl.reverse = v.reverse ++ t :: a :: u.reverse := by rw [← List.reverse_reverse (chainS pl.reverse), e]; simp
  have cv := C.conv
  have hd := C.head
  rw [es] at cv hd
  obtain ⟨g1, g2, g3⟩ := cv.edge v.reverse a t u.reverse (fun c hc => head_top dsc c (by rw [← hd]; exact hc))
  refine ⟨fun q hq => g1 q (List.mem_reverse.mpr hq), g2, fun d hd => ?_⟩
  obtain ⟨k1, k2, k3⟩ := g3 d (by rw [List.getLast?_reverse]; exact hd)
  exact ⟨k1, k2, fun q hq => k3 q (List.mem_reverse.mpr hq)⟩
theorem neg_asc (asc : pl.Pairwise fun a b => lt a b = true) : (pl.map neg).Pairwise fun a b => lt b a = true := List.pairwise_map.mpr (asc.imp fun {a b} h => by rw [lt_neg]; exact h)
theorem upper (asc : pl.Pairwise fun a b => lt a b = true) {u v : List Pt} {a t : Pt} (e : (chainS pl).reverse = u ++ a :: t :: v) : EdgeOk (pl.map neg) (neg a) (neg t) ∧ lt t a = true := by
  have C := chainS_ok (pl.map neg) (neg_asc asc)
  have es : chainS (pl.map neg) = (v.reverse.map neg) ++ neg t :: neg a :: u.reverse.map neg := by rw [chainS_neg, ← List.reverse_reverse (chainS pl), e]; simp
  have cv := C.conv
  have hd := C.head
  rw [es] at cv hd
  obtain ⟨g1, g2, _⟩ := cv.edge _ (neg a) (neg t) _ (fun c hc => head_top (neg_asc asc) c (by rw [← hd]; exact hc))
  rw [lt_neg] at g2
  exact ⟨g1, g2⟩
theorem wrap_of (asc : pl.Pairwise fun a b => lt a b = true) (two : 2 ≤ pl.length) : Wrap pl ((chainS pl.reverse).reverse.dropLast ++ (chainS pl).reverse.dropLast) := by
  have C1 := chainS_ok pl.reverse (List.pairwise_reverse.mpr asc)
  have C2 := chainS_ok (pl.map neg) (neg_asc asc)
  rw [chainS_neg] at C2
  obtain ⟨L, hL⟩ : ∃ L, pl.head? = some L := by
    cases pl with
    | nil => simp at two
    | cons x r => exact ⟨x, rfl⟩
  obtain ⟨R, hR⟩ : ∃ R, pl.getLast? = some R := by
    cases e : pl.getLast? with
    | none => rw [List.getLast?_eq_none_iff.mp e] at two; simp at two
    | some R => exact ⟨R, rfl⟩
  have nLR : L ≠ R := fun e => by
    cases pl with
    | nil => cases hL
    | cons x r =>
      cases hL
      cases r with
      | nil => simp at two
      | cons y r =>
        rw [List.getLast?_cons_cons] at hR
        have := (List.pairwise_cons.mp asc).1 R (List.mem_of_getLast? hR)
        rw [e, lt_irr] at this
        cases this
  have hB : (chainS pl.reverse).reverse.head? = some L := by rw [List.head?_reverse, C1.last, List.getLast?_reverse, hL]
  have lB : (chainS pl.reverse).reverse.getLast? = some R := by rw [List.getLast?_reverse, C1.head, List.head?_reverse, hR]
  have lA : (chainS pl).reverse.getLast? = some L := by
    rw [List.getLast?_reverse]
    cases pl with
    | nil => cases hL
    | cons x r => exact hL
  have hA : (chainS pl).reverse.head? = some R := by
    rw [List.head?_reverse]
    have := C2.last
    rw [List.getLast?_map, List.getLast?_map, hR] at this
    cases e : (chainS pl).getLast? with
    | none => rw [e] at this; cases this
    | some x =>
      rw [e] at this
      injection this with this
      rw [neg_inj this]
  have subB : ∀ x ∈ (chainS pl.reverse).reverse, x ∈ pl := fun x hx => List.mem_reverse.mp (C1.sub x (List.mem_reverse.mp hx))
  have subA : ∀ x ∈ (chainS pl).reverse, x ∈ pl := fun x hx => mem_neg.mp (C2.sub _ (mem_neg.mpr (List.mem_reverse.mp hx)))
  have nB : (chainS pl.reverse).reverse.Nodup := nodup_rev (asc_nodup C1.desc)
  have nA : (chainS pl).reverse.Nodup := by
    refine nodup_rev ?_
    have := asc_nodup C2.desc
    rw [List.nodup_iff_pairwise_ne, List.pairwise_map] at this
    rw [List.nodup_iff_pairwise_ne]
    exact this.imp fun {a b} n e => n (by rw [e])
  have lowE := fun u v a t e => lower asc (u := u) (v := v) (a := a) (t := t) e
  have uppE := fun u v a t e => upper asc (u := u) (v := v) (a := a) (t := t) e
  generalize (chainS pl.reverse).reverse = B at *
  generalize (chainS pl).reverse = A at *
  clear C1 C2
  have eB : B = B.dropLast ++ [R] := by
    have ne : B ≠ [] := fun e => by rw [e] at hB; cases hB
    rw [List.getLast?_eq_some_getLast ne] at lB
    injection lB with lB
    conv => lhs; rw [← List.dropLast_concat_getLast ne, lB]
  have eA : A = A.dropLast ++ [L] := by
    have ne : A ≠ [] := fun e => by rw [e] at hA; cases hA
    rw [List.getLast?_eq_some_getLast ne] at lA
    injection lA with lA
    conv => lhs; rw [← List.dropLast_concat_getLast ne, lA]
  obtain ⟨A', hA'⟩ : ∃ A', A = R :: A' := by
    cases A with
    | nil => cases hA
    | cons x r => cases hA; exact ⟨r, rfl⟩
  obtain ⟨D', hD⟩ : ∃ D', B.dropLast = L :: D' := by
    cases q : B.dropLast with
    | nil =>
      rw [q] at eB
      rw [eB] at hB
      cases hB
      exact absurd rfl nLR
    | cons x r =>
      rw [q] at eB
      rw [eB] at hB
      cases hB
      exact ⟨r, rfl⟩
  have nA0 : 1 ≤ A.dropLast.length := by
    cases q : A.dropLast with
    | nil =>
      rw [q] at eA
      rw [eA] at hA
      cases hA
      exact absurd rfl nLR
    | cons x r => simp
  have subD : ∀ x ∈ B.dropLast, x ∈ B := fun x hx => (List.dropLast_sublist _).subset hx
  have subA0 : ∀ x ∈ A.dropLast, x ∈ A := fun x hx => (List.dropLast_sublist _).subset hx
  have nd : (B.dropLast ++ A.dropLast).Nodup := by
    refine List.nodup_append.mpr ⟨nB.sublist (List.dropLast_sublist _), nA.sublist (List.dropLast_sublist _), fun x hx y hy e => ?_⟩
    subst e
    have xL : x ≠ L := fun e => by
      rw [eA] at nA
      exact (List.nodup_append.mp nA).2.2 x hy L (by simp) e
    have xR : x ≠ R := fun e => by
      rw [eB] at nB
      exact (List.nodup_append.mp nB).2.2 x hx R (by simp) e
    obtain ⟨u, y, v, e1⟩ := in_init hx
    obtain ⟨u2, y2, v2, e2⟩ := in_init hy
    rcases List.eq_nil_or_concat u with rfl | ⟨u', b1, rfl⟩
    · rw [e1] at hB
      cases hB
      exact xL rfl
    rcases List.eq_nil_or_concat u2 with rfl | ⟨u2', a1, rfl⟩
    · rw [e2] at hA
      cases hA
      exact xR rfl
    rw [List.concat_eq_append, List.append_assoc] at e1 e2
    obtain ⟨k1, k2, k3⟩ := lowE u' (y :: v) b1 x e1
    obtain ⟨m1, m2, m3⟩ := k3 y rfl
    obtain ⟨n1, n2⟩ := uppE u2' (y2 :: v2) a1 x e2
    have mb : b1 ∈ pl := subB b1 (by rw [e1]; simp)
    have ma : a1 ∈ pl := subA a1 (by rw [e2]; simp)
    have o1 := (n1 (neg b1) (mem_neg.mpr mb)).1
    rw [tn_neg] at o1
    exact no_both k2 m1 n2 m2 o1 (m3 a1 ma)
  have sub : ∀ x ∈ B.dropLast ++ A.dropLast, x ∈ pl := fun x hx => (List.mem_append.mp hx).elim (fun h => subB x (subD x h)) fun h => subA x (subA0 x h)
  refine ⟨sub, nodup_len nd sub, ⟨D' ++ A.dropLast, L, by rw [hD]; rfl, fun q hq => ?_, ?_⟩, fun o => ?_, fun _ j a t ha ht => ?_⟩
  · cases pl with
    | nil => cases hL
    | cons x r =>
      cases hL
      rcases List.mem_cons.mp hq with rfl | hq
      · exact lt_irr _
      · exact lt_le ((List.pairwise_cons.mp asc).1 q hq)
  · rw [hD] at nd
    exact (List.nodup_cons.mp nd).1
  · rw [List.length_append, hD, List.length_cons] at o
    omega
  · have eP : (B.dropLast ++ A.dropLast) ++ (B.dropLast ++ A.dropLast).take 1 = B.dropLast ++ R :: A' := by
      rw [← hA']
      conv => rhs; rw [eA]
      rw [List.append_assoc]
      rw [hD]
      rfl
    have hj := (List.getElem?_eq_some_iff.mp ha).1
    obtain ⟨u, v, e⟩ := split_at (l := (B.dropLast ++ A.dropLast) ++ (B.dropLast ++ A.dropLast).take 1) (by rw [List.getElem?_append_left hj]; exact ha) ht
    rw [eP] at e
    rcases adj_split e with ⟨v', e1⟩ | ⟨u', e1⟩
    · rw [← eB] at e1
      obtain ⟨k1, k2, _⟩ := lowE u v' a t e1
      refine ⟨subB t (by rw [e1]; simp), (fun z => by rw [z, lt_irr] at k2; exact Bool.noConfusion k2), fun q hq => ⟨(k1 q hq).1, fun z => ?_⟩⟩
      obtain ⟨z1, z2⟩ := (k1 q hq).2 z
      exact dist_le k2 z z1 z2
    · rw [← hA'] at e1
      obtain ⟨k1, k2⟩ := uppE u' v a t e1
      refine ⟨subA t (by rw [e1]; simp), (fun z => by rw [z, lt_irr] at k2; exact Bool.noConfusion k2), fun q hq => ?_⟩
      have k := k1 (neg q) (mem_neg.mpr hq)
      rw [tn_neg] at k
      refine ⟨k.1, fun z => ?_⟩
      obtain ⟨z1, z2⟩ := k.2 z
      have := dist_le (b := neg a) (c := neg t) (q := neg q) (by rw [lt_neg]; exact k2) (by rw [tn_neg]; exact z) z1 z2
      rw [d1_neg, d1_neg] at this
      exact ⟨this.1, fun g => neg_inj (this.2 g)⟩
end
/-- of points that come more than once, too -/
theorem Wrap.of {pl S h : List Pt} (W : Wrap pl h) (nd : pl.Nodup) (e : ∀ x, x ∈ pl ↔ x ∈ S) : Wrap S h := by
  obtain ⟨r, L, eh, h1, h2⟩ := W.least
  refine ⟨fun x hx => (e x).mp (W.sub x hx), Nat.le_trans W.few (nodup_len nd fun x hx => (e x).mp hx), ⟨r, L, eh, fun q hq => h1 q ((e q).mpr hq), h2⟩, fun o q hq => W.one o q ((e q).mpr hq), fun o j a t ha ht => ?_⟩
  have n := W.next o j a t ha ht
  exact ⟨(e t).mp n.mem, n.ne, fun q hq => n.all q ((e q).mpr hq)⟩
theorem wrap_one (L : Pt) : Wrap [L] [L] := ⟨fun x h => h, Nat.le_refl _, ⟨[], L, rfl, fun q hq => by rw [List.mem_singleton] at hq; subst hq; exact lt_irr _, by simp⟩, fun _ q hq => by rw [List.mem_singleton] at hq; rw [hq], fun o => by simp at o⟩
/-- any points, in order, each once -/
theorem in_order : ∀ S : List Pt, ∃ pl : List Pt, (pl.Pairwise fun a b => lt a b = true) ∧ ∀ x, x ∈ pl ↔ x ∈ S
  | [] => ⟨[], .nil, fun x => Iff.rfl⟩
  | y :: S => by
    obtain ⟨pl, h, e⟩ := in_order S
    have ins : ∀ pl : List Pt, (pl.Pairwise fun a b => lt a b = true) → ∃ m : List Pt, (m.Pairwise fun a b => lt a b = true) ∧ ∀ x, x ∈ m ↔ x = y ∨ x ∈ pl := by
      intro pl
      induction pl with
      | nil => exact fun _ => ⟨[y], List.pairwise_singleton _ _, fun x => by simp⟩
      | cons z pl ih =>
        intro h
        obtain ⟨h1, h2⟩ := List.pairwise_cons.mp h
        by_cases l1 : lt y z = true
        · refine ⟨y :: z :: pl, List.pairwise_cons.mpr ⟨fun x hx => ?_, h⟩, fun x => by simp⟩
          rcases List.mem_cons.mp hx with rfl | hx
          · exact l1
          · exact lt_trans l1 (h1 x hx)
        · by_cases l2 : lt z y = true
          · obtain ⟨m, m1, m2⟩ := ih h2
            refine ⟨z :: m, List.pairwise_cons.mpr ⟨fun x hx => ?_, m1⟩, fun x => ?_⟩
            · rcases (m2 x).mp hx with rfl | hx
              · exact l2
              · exact h1 x hx
            · rw [List.mem_cons, List.mem_cons, m2 x]
              constructor
              · rintro (a | a | a)
                · exact .inr (.inl a)
                · exact .inl a
                · exact .inr (.inr a)
              · rintro (a | a | a)
                · exact .inr (.inl a)
                · exact .inl a
                · exact .inr (.inr a)
          · have ez : y = z := lt_tri (by simpa using l1) (by simpa using l2)
            subst ez
            exact ⟨y :: pl, h, fun x => by simp⟩
    obtain ⟨m, m1, m2⟩ := ins pl h
    exact ⟨m, m1, fun x => by rw [m2, e, List.mem_cons]⟩
theorem sorted_nodup {pl : List Pt} (h : pl.Pairwise fun a b => lt a b = true) : pl.Nodup := by
  rw [List.nodup_iff_pairwise_ne]
  exact h.imp fun {a b} l e => by rw [e, lt_irr] at l; cases l
end My
namespace My
open PySem L2
/-! ## a list read from its end -/
theorem refs_back (c : Zp) (r : List Zp) : refs (c :: r).reverse = refs r.reverse ++ [.ref c.1] := by rw [List.reverse_cons, refs_app]; rfl
theorem at_back1 (c : Zp) (r : List Zp) : atI (refs (c :: r).reverse) (-1) = some (.ref c.1) := by
  rw [refs_back]
  unfold atI ixN
  have ln : (refs r.reverse ++ [V.ref c.1]).length = r.length + 1 := by rw [List.length_append, refs_len, List.length_reverse]; rfl
  rw [if_neg (by decide), if_pos (by rw [ln]; omega)]
  simp only [Option.bind_some]
  rw [ln, show (-1 + ((r.length + 1 : Nat) : Int)).toNat = r.length by omega, List.getElem?_append_right (by rw [refs_len, List.length_reverse]; omega), refs_len, List.length_reverse, Nat.sub_self]
  rfl
theorem at_back2 (c b : Zp) (r : List Zp) : atI (refs (c :: b :: r).reverse) (-2) = some (.ref b.1) := by
  rw [refs_back, refs_back]
  unfold atI ixN
  have ln : (refs r.reverse ++ [V.ref b.1] ++ [V.ref c.1]).length = r.length + 2 := by rw [List.length_append, List.length_append, refs_len, List.length_reverse]; rfl
  rw [if_neg (by decide), if_pos (by rw [ln]; omega)]
  simp only [Option.bind_some]
  rw [ln, show (-2 + ((r.length + 2 : Nat) : Int)).toNat = r.length by omega, List.append_assoc, List.getElem?_append_right (by rw [refs_len, List.length_reverse]; omega), refs_len, List.length_reverse, Nat.sub_self]
  rfl
theorem last_back (c : Zp) (r : List Zp) : (refs (c :: r).reverse)[(refs (c :: r).reverse).length - 1]? = some (.ref c.1) := by
  rw [refs_back, List.length_append, List.length_singleton, Nat.add_sub_cancel, List.getElem?_append_right (Nat.le_refl _), Nat.sub_self]
  rfl
theorem drop_back (c : Zp) (r : List Zp) : (refs (c :: r).reverse).dropLast = refs r.reverse := by rw [refs_back, List.dropLast_concat]
theorem crd_rev (zs : List Zp) : crd zs.reverse = (crd zs).reverse := List.map_reverse
theorem crd_app (zs ws : List Zp) : crd (zs ++ ws) = crd zs ++ crd ws := List.map_append
theorem mem_crd {z : Zp} {zs : List Zp} (h : z ∈ zs) : z.2 ∈ crd zs := List.mem_map.mpr ⟨z, h, rfl⟩
theorem cut_m1 (xs : List V) : cutV xs none (some (-1)) = xs.dropLast := by
  unfold cutV
  rw [show HT.sIx xs.length 0 none = 0 from rfl, List.drop_zero, Nat.sub_zero, List.dropLast_eq_take]
  congr 1
  show (if (-1 : Int) < 0 then (-1 + (xs.length : Int)).toNat else min (-1 : Int).toNat xs.length) = _
  rw [if_pos (by decide)]
  omega
theorem refs_init (zs : List Zp) : (refs zs).dropLast = refs zs.dropLast := by
  rw [List.dropLast_eq_take, List.dropLast_eq_take, refs_take, refs_len]
theorem crd_init (zs : List Zp) : crd zs.dropLast = (crd zs).dropLast := by
  rw [List.dropLast_eq_take, List.dropLast_eq_take, List.length_map]
  exact List.map_take
theorem sorted_asc {cs : List Pn} (nd : (cs.map fun b => b.2).Nodup) : (crd (cs.mergeSort fun p q => decide (p.2.1 < q.2.1 ∨ (p.2.1 = q.2.1 ∧ p.2.2 ≤ q.2.2)))).Pairwise fun a b => lt a b = true := by
  have h1 := sortP_le cs
  have h2 : (crd (cs.mergeSort fun p q => decide (p.2.1 < q.2.1 ∨ (p.2.1 = q.2.1 ∧ p.2.2 ≤ q.2.2)))).Nodup := ((sortP_perm cs).map _).nodup_iff.mpr nd
  rw [List.nodup_iff_pairwise_ne, List.pairwise_map] at h2
  rw [List.pairwise_map]
  refine (h1.and h2).imp fun {a b} h => ?_
  obtain ⟨g1, g2⟩ := h
  cases e : lt a.2 b.2 with
  | true => rfl
  | false => exact absurd (lt_tri e g1) g2
theorem chainS_len : ∀ R : List Pt, (chainS R).length ≤ R.length
  | [] => Nat.le_refl _
  | p :: R => Nat.succ_le_succ (Nat.le_trans (popR_suffix p _).length_le (chainS_len R))
theorem chain_len {ws : List Zp} {R : List Pt} (h : crd ws = (chainS R).reverse) : ws.length ≤ R.length := by
  have := congrArg List.length h
  rw [List.length_map, List.length_reverse] at this
  have := chainS_len R
  omega
end My
namespace My
open PySem L2
/-! ## hulls are rings that hold all -/
theorem edge_box {b c q : Pt} (l : lt b c = true) (z : tn b c q = 0) (h1 : lt q b = false) (h2 : lt c q = false) : box q b c = true := by
  rw [← on_box l]
  show (decide (tn b c q = 0) && (!lt q b && !lt c q)) = true
  rw [decide_eq_true z, h1, h2]
  rfl
theorem box_neg (p a b : Pt) : box (neg p) (neg a) (neg b) = box p a b := by
  rw [Bool.eq_iff_iff, box_iff, box_iff, tn_neg]
  unfold neg
  dsimp only
  omega
theorem hull_edge {pl : List Pt} (asc : pl.Pairwise fun a b => lt a b = true) (two : 2 ≤ pl.length) {a t q : Pt} {j : Nat} (ha : ((chainS pl.reverse).reverse.dropLast ++ (chainS pl).reverse.dropLast)[j]? = some a)
    (ht : (((chainS pl.reverse).reverse.dropLast ++ (chainS pl).reverse.dropLast) ++ ((chainS pl.reverse).reverse.dropLast ++ (chainS pl).reverse.dropLast).take 1)[j + 1]? = some t) (hq : q ∈ pl) (z : tn a t q = 0) : box q a t = true := by
  have W := wrap_of asc two
  have C2 := chainS_ok (pl.map neg) (neg_asc asc)
  rw [chainS_neg] at C2
  obtain ⟨r, L, eh, least, _⟩ := W.least
  have mL : L ∈ pl := W.sub L (by rw [eh]; simp)
  obtain ⟨R, hR⟩ : ∃ R, pl.getLast? = some R := by
    cases e : pl.getLast? with
    | none => rw [List.getLast?_eq_none_iff.mp e] at two; simp at two
    | some R => exact ⟨R, rfl⟩
  have hL : pl.head? = some L := by
    cases pl with
    | nil => cases mL
    | cons x r' =>
      have h1 := least x (by simp)
      rcases List.mem_cons.mp mL with rfl | m
      · rfl
      · have h2 := (List.pairwise_cons.mp asc).1 L m
        rw [h1] at h2
        cases h2
  have lB : (chainS pl.reverse).reverse.getLast? = some R := by
    have C1 := chainS_ok pl.reverse (List.pairwise_reverse.mpr asc)
    rw [List.getLast?_reverse, C1.head, List.head?_reverse, hR]
  have lA : (chainS pl).reverse.getLast? = some L := by
    rw [List.getLast?_reverse]
    cases pl with
    | nil => cases hL
    | cons x r => exact hL
  have hA : (chainS pl).reverse.head? = some R := by
    rw [List.head?_reverse]
    have := C2.last
    rw [List.getLast?_map, List.getLast?_map, hR] at this
    cases e : (chainS pl).getLast? with
    | none => rw [e] at this; cases this
    | some x =>
      rw [e] at this
      injection this with this
      rw [neg_inj this]
  have lowE := fun u v a t e => lower asc (u := u) (v := v) (a := a) (t := t) e
  have uppE := fun u v a t e => upper asc (u := u) (v := v) (a := a) (t := t) e
  generalize (chainS pl.reverse).reverse = B at *
  generalize (chainS pl).reverse = A at *
  have eB : B = B.dropLast ++ [R] := by
    have ne : B ≠ [] := fun e => by rw [e] at lB; cases lB
    rw [List.getLast?_eq_some_getLast ne] at lB
    injection lB with lB
    conv => lhs; rw [← List.dropLast_concat_getLast ne, lB]
  have eA : A = A.dropLast ++ [L] := by
    have ne : A ≠ [] := fun e => by rw [e] at hA; cases hA
    rw [List.getLast?_eq_some_getLast ne] at lA
    injection lA with lA
    conv => lhs; rw [← List.dropLast_concat_getLast ne, lA]
  obtain ⟨A', hA'⟩ : ∃ A', A = R :: A' := by
    cases A with
    | nil => cases hA
    | cons x r => cases hA; exact ⟨r, rfl⟩
  have eP : (B.dropLast ++ A.dropLast) ++ (B.dropLast ++ A.dropLast).take 1 = B.dropLast ++ R :: A' := by
    rw [← hA']
    conv => rhs; rw [eA]
    rw [← List.append_assoc, eh]
    rfl
  have hj := (List.getElem?_eq_some_iff.mp ha).1
  obtain ⟨u, v, e⟩ := split_at (l := (B.dropLast ++ A.dropLast) ++ (B.dropLast ++ A.dropLast).take 1) (by rw [List.getElem?_append_left hj]; exact ha) ht
  rw [eP] at e
  rcases adj_split e with ⟨v', e1⟩ | ⟨u', e1⟩
  · rw [← eB] at e1
    obtain ⟨k1, k2, _⟩ := lowE u v' a t e1
    obtain ⟨z1, z2⟩ := (k1 q hq).2 z
    exact edge_box k2 z z1 z2
  · rw [← hA'] at e1
    obtain ⟨k1, k2⟩ := uppE u' v a t e1
    have k := k1 (neg q) (mem_neg.mpr hq)
    rw [tn_neg] at k
    obtain ⟨z1, z2⟩ := k.2 z
    rw [← box_neg]
    exact edge_box (by rw [lt_neg]; exact k2) (by rw [tn_neg]; exact z) z1 z2
theorem Wrap.box_ {S h : List Pt} (W : Wrap S h) (two : 2 ≤ h.length) {a t q : Pt} {j : Nat} (ha : h[j]? = some a) (ht : (h ++ h.take 1)[j + 1]? = some t) (hq : q ∈ S) (z : tn a t q = 0) : box q a t = true := by
  obtain ⟨pl, asc, e⟩ := in_order S
  match pl, asc, e with
  | [], _, e => exact absurd ((e q).mpr hq) (by simp)
  | [L], asc, e =>
    have := W.unique (wrap_one L) fun x => (e x).symm
    rw [this] at two
    exact absurd two (by simp)
  | L :: x :: r, asc, e =>
    have eh := W.unique (wrap_of asc (by simp)) fun x => (e x).symm
    subst eh
    exact hull_edge asc (by simp) ha ht ((e q).mpr hq) z
/-- a point strictly between two others is no corner -/
theorem no_mid {a b q n : Pt} (ha : q ≠ a) (hb : q ≠ b) (m : box q a b = true) (g1 : 0 ≤ tn q n a) (g2 : 0 ≤ tn q n b) (b1 : tn q n a = 0 → box a q n = true) (b2 : tn q n b = 0 → box b q n = true) : False := by
  rw [box_iff] at m
  rw [box_iff] at b1 b2
  obtain ⟨ax, ay⟩ := a
  obtain ⟨bx, dy⟩ := b
  obtain ⟨qx, qy⟩ := q
  obtain ⟨nx, ny⟩ := n
  have ha : ¬ (qx = ax ∧ qy = ay) := fun h => ha (by rw [h.1, h.2])
  have hb : ¬ (qx = bx ∧ qy = dy) := fun h => hb (by rw [h.1, h.2])
  obtain ⟨m1, m2, m3⟩ := m
  dsimp only at *
  have e0 : tn (ax, ay) (bx, dy) (qx, qy) = (ax - qx) * (dy - qy) - (ay - qy) * (bx - qx) := by unfold tn turnI; grind
  have e1 : tn (qx, qy) (nx, ny) (ax, ay) = (nx - qx) * (ay - qy) - (ny - qy) * (ax - qx) := by unfold tn turnI; grind
  have e2 : tn (qx, qy) (nx, ny) (bx, dy) = (nx - qx) * (dy - qy) - (ny - qy) * (bx - qx) := by unfold tn turnI; grind
  rw [e0] at m1
  obtain ⟨u1, hu1⟩ : ∃ u, u = ax - qx := ⟨_, rfl⟩
  obtain ⟨u2, hu2⟩ : ∃ u, u = ay - qy := ⟨_, rfl⟩
  obtain ⟨v1, hv1⟩ : ∃ u, u = bx - qx := ⟨_, rfl⟩
  obtain ⟨v2, hv2⟩ : ∃ u, u = dy - qy := ⟨_, rfl⟩
  obtain ⟨w1, hw1⟩ : ∃ u, u = nx - qx := ⟨_, rfl⟩
  obtain ⟨w2, hw2⟩ : ∃ u, u = ny - qy := ⟨_, rfl⟩
  rw [e1] at g1 b1
  rw [e2] at g2 b2
  rw [← hu1, ← hu2, ← hw1, ← hw2] at g1 b1
  rw [← hv1, ← hv2, ← hw1, ← hw2] at g2 b2
  rw [← hu1, ← hu2, ← hv1, ← hv2] at m1
  obtain ⟨X, hX⟩ : ∃ X, X = w1 * u2 - w2 * u1 := ⟨_, rfl⟩
  obtain ⟨Y, hY⟩ : ∃ Y, Y = w1 * v2 - w2 * v1 := ⟨_, rfl⟩
  have i1 : v1 * X = u1 * Y := by rw [hX, hY]; grind
  have i2 : v2 * X = u2 * Y := by rw [hX, hY]; grind
  rw [← hX] at g1 b1
  rw [← hY] at g2 b2
  have two : X = 0 ∧ Y = 0 := by
    have opp : ∀ u v : Int, (u < 0 ∧ 0 < v) ∨ (0 < u ∧ v < 0) → v * X = u * Y → X = 0 ∧ Y = 0 := fun u v h i => by
      rcases h with ⟨h1, h2⟩ | ⟨h1, h2⟩
      · have p1 := Int.mul_nonneg (Int.le_of_lt h2) g1
        have p2 := Int.mul_nonneg (show 0 ≤ -u by omega) g2
        have p3 : -u * Y = -(u * Y) := Int.neg_mul ..
        have z1 : v * X = 0 := by omega
        have z2 : u * Y = 0 := by omega
        rcases Int.mul_eq_zero.mp z1 with q | q
        · omega
        rcases Int.mul_eq_zero.mp z2 with q' | q'
        · omega
        exact ⟨q, q'⟩
      · have p1 := Int.mul_nonneg (Int.le_of_lt h1) g2
        have p2 := Int.mul_nonneg (show 0 ≤ -v by omega) g1
        have p3 : -v * X = -(v * X) := Int.neg_mul ..
        have z1 : v * X = 0 := by omega
        have z2 : u * Y = 0 := by omega
        rcases Int.mul_eq_zero.mp z1 with q | q
        · omega
        rcases Int.mul_eq_zero.mp z2 with q' | q'
        · omega
        exact ⟨q, q'⟩
    by_cases c1 : u1 = 0
    · have u2n : u2 ≠ 0 := by omega
      have v1z : v1 = 0 := by
        rw [c1, Int.zero_mul] at m1
        have : u2 * v1 = 0 := by omega
        exact (Int.mul_eq_zero.mp this).resolve_left u2n
      exact opp u2 v2 (by omega) i2
    · have v1n : v1 ≠ 0 := fun z => by
        rw [z, Int.mul_zero] at m1
        have : u1 * v2 = 0 := by omega
        have := (Int.mul_eq_zero.mp this).resolve_left c1
        omega
      exact opp u1 v1 (by omega) i1
  have k1 := b1 two.1
  have k2 := b2 two.2
  by_cases c1 : u1 = 0
  · have u2n : u2 ≠ 0 := by omega
    have v1z : v1 = 0 := by
      rw [c1, Int.zero_mul] at m1
      have : u2 * v1 = 0 := by omega
      exact (Int.mul_eq_zero.mp this).resolve_left u2n
    omega
  · have v1n : v1 ≠ 0 := fun z => by
      rw [z, Int.mul_zero] at m1
      have : u1 * v2 = 0 := by omega
      have := (Int.mul_eq_zero.mp this).resolve_left c1
      omega
    omega
end My
namespace My
open PySem L2
/-! ## hulls of three corners or more: rings that hold all -/
structure Cxh (S : List Pt) (ws : List Zp) : Prop where
  l3 : 3 ≤ ws.length
  nd : ∀ i j, i < j → j < ws.length → pt ws i ≠ pt ws j
  ge : ∀ i, i < ws.length → ∀ q ∈ S, 0 ≤ tn (pt ws i) (pt ws (i + 1)) q
  bx : ∀ i, i < ws.length → ∀ q ∈ S, tn (pt ws i) (pt ws (i + 1)) q = 0 → box q (pt ws i) (pt ws (i + 1)) = true
  mem : ∀ i, pt ws i ∈ S
theorem pt_mod_ (ws : List Zp) (k : Nat) : pt ws (k % ws.length) = pt ws k := pt_mod (by rw [Nat.mod_mod])
theorem pt_succ_mod (ws : List Zp) (k : Nat) : pt ws (k % ws.length + 1) = pt ws (k + 1) := pt_mod (by rw [Nat.add_mod, Nat.mod_mod, ← Nat.add_mod])
theorem cxh_of {S : List Pt} {ws : List Zp} (W : Wrap S (crd ws)) (l3 : 3 ≤ ws.length) : Cxh S ws := by
  have ln : (crd ws).length = ws.length := List.length_map _
  have two : 2 ≤ (crd ws).length := by omega
  have at_ : ∀ i, i < ws.length → (crd ws)[i]? = some (pt ws i) := fun i hi => by
    rw [List.getElem?_map, List.getElem?_eq_getElem hi, pt_at (List.getElem?_eq_getElem hi)]
    rfl
  have nx_ : ∀ i, i < ws.length → (crd ws ++ (crd ws).take 1)[i + 1]? = some (pt ws (i + 1)) := fun i hi => by
    by_cases e : i + 1 < ws.length
    · rw [List.getElem?_append_left (by omega)]
      exact at_ _ e
    · rw [List.getElem?_append_right (by omega), ln, show i + 1 - ws.length = 0 by omega, List.getElem?_take_of_lt (by decide), at_ 0 (by omega), show i + 1 = 0 + ws.length by omega, pt_add]
  have N := fun i hi => W.next two i (pt ws i) (pt ws (i + 1)) (at_ i hi) (nx_ i hi)
  have mem : ∀ i, pt ws i ∈ S := fun i => by
    rw [← pt_mod_]
    exact W.sub _ (List.mem_of_getElem? (at_ _ (Nat.mod_lt _ (by omega))))
  refine ⟨l3, fun i j hij hj e => ?_, fun i hi q hq => ((N i hi).all q hq).1, fun i hi q hq z => W.box_ two (at_ i hi) (nx_ i hi) hq z, mem⟩
  have go : ∀ m, j + m < ws.length → pt ws (i + m) = pt ws (j + m) := by
    intro m
    induction m with
    | zero => exact fun _ => e
    | succ m ih =>
      intro h
      have n1 := N (i + m) (by omega)
      have n2 := N (j + m) (by omega)
      rw [← ih (by omega)] at n2
      exact n1.unique n2 fun _ => Iff.rfl
  have last := go (ws.length - 1 - j) (by omega)
  have n1 := N (i + (ws.length - 1 - j)) (by omega)
  have n2 := N (ws.length - 1) (by omega)
  rw [show j + (ws.length - 1 - j) = ws.length - 1 by omega] at last
  rw [last] at n1
  have z := n1.unique n2 fun _ => Iff.rfl
  rw [show ws.length - 1 + 1 = 0 + ws.length by omega, pt_add] at z
  obtain ⟨r, L, eh, _, nL⟩ := W.least
  have h0 := at_ 0 (by omega)
  have hk := at_ (i + (ws.length - 1 - j) + 1) (by omega)
  rw [z] at hk
  rw [eh] at h0 hk
  injection h0 with h0
  rw [List.getElem?_cons_succ] at hk
  have := List.mem_of_getElem? hk
  rw [← h0] at this
  exact nL this
theorem Cxh.strict {S : List Pt} {ws : List Zp} (C : Cxh S ws) {i k : Nat} (hi : i < ws.length) (h1 : pt ws k ≠ pt ws i) (h2 : pt ws k ≠ pt ws (i + 1)) : 0 < tn (pt ws i) (pt ws (i + 1)) (pt ws k) := by
  have l3 := C.l3
  have hk : k % ws.length < ws.length := Nat.mod_lt _ (by omega)
  have g := C.ge i hi _ (C.mem k)
  by_cases z : tn (pt ws i) (pt ws (i + 1)) (pt ws k) = 0
  · exfalso
    have b := C.bx i hi _ (C.mem k) z
    have ga := C.ge _ hk _ (C.mem i)
    have gb := C.ge _ hk _ (C.mem (i + 1))
    have ba := C.bx _ hk _ (C.mem i)
    have bb := C.bx _ hk _ (C.mem (i + 1))
    rw [pt_mod_, pt_succ_mod] at ga gb ba bb
    exact no_mid h1 h2 b ga gb ba bb
  · omega
theorem Cxh.ne_ {S : List Pt} {ws : List Zp} (C : Cxh S ws) {i k : Nat} (h : i % ws.length ≠ k % ws.length) : pt ws i ≠ pt ws k := by
  have l3 := C.l3
  have hi : i % ws.length < ws.length := Nat.mod_lt _ (by omega)
  have hk : k % ws.length < ws.length := Nat.mod_lt _ (by omega)
  rw [← pt_mod_ ws i, ← pt_mod_ ws k]
  rcases Nat.lt_or_ge (i % ws.length) (k % ws.length) with q | q
  · exact C.nd _ _ q hk
  · exact (C.nd _ _ (by omega) hi).symm
theorem mod_one {i n : Nat} (h : i < n) : i % n = i := Nat.mod_eq_of_lt h
theorem mod_over {i n : Nat} (h : i < 2 * n) (g : n ≤ i) : i % n = i - n := by
  rw [show i = i - n + n by omega, Nat.add_mod_right, Nat.mod_eq_of_lt (by omega)]
  omega
theorem Cxh.dist {S : List Pt} {ws : List Zp} (C : Cxh S ws) {i k : Nat} (h : i < k) (g : k < i + ws.length) (a : k < 2 * ws.length) : pt ws i ≠ pt ws k := by
  have l3 := C.l3
  refine C.ne_ ?_
  rcases Nat.lt_or_ge i ws.length with q | q <;> rcases Nat.lt_or_ge k ws.length with q2 | q2
  · rw [mod_one q, mod_one q2]; omega
  · rw [mod_one q, mod_over a q2]; omega
  · omega
  · rw [mod_over (by omega) q, mod_over a q2]; omega
/-! ### what the hull holds -/
end My
namespace PySem
end PySem
namespace PySem
end PySem
namespace PySem
end PySem
namespace PySem
namespace Gx
open PySem.W PySem.Calls PyProof.Rows L2 GenW
abbrev E2 (elt t0 i0 : Expr) (f0 : List Expr) (t1 i1 : Expr) (f1 : List Expr) (scope : Scope) (pos : Pos) : Expr := .GeneratorExp elt [⟨t0, i0, f0, 0⟩, ⟨t1, i1, f1, 0⟩] scope pos
/-- the tests of a clause -/
abbrev goodX (ifs : List Expr) (env : Env) : Sem Bool := forIn ifs true fun c r => if r = true then do let ok ← isTrue c env (eval c env); pure (ForInStep.yield ok) else pure (ForInStep.yield r)
/-- no exception -/
abbrev noX : Value → Shared → Prop := fun _ _ => False
section
variable {prog : Program} {w : World} {A B : Around} {elt t0 i0 t1 i1 : Expr} {f0 f1 : List Expr} {scope : Scope} {pos : Pos} {cenv : Env} {Sr : Value → Shared → Shared → Prop} {C : Shared → Value → Shared → Prop} {Go : Value → Prop}
theorem turn2_out (it acc : Value) (env : Env) : compTurn (E2 elt t0 i0 f0 t1 i1 f1 scope pos) 0 it acc env = (standAt i0.pos >>= fun _ => pyNext it >>= fun r => match r with
    | none => pure (.done .next)
    | some v => letOwnedTupleGo t0 it v >>= fun _ => assign t0 env v >>= fun _ => goodX f0 env >>= fun ok => if ok = true then (eval i1 env >>= fun x => standAt i1.pos >>= fun _ => foldedSetIterable i1 env x >>= fun x => holding [x] (pyIter x) >>= fun j => runOwn (.compStart (E2 elt t0 i0 f0 t1 i1 f1 scope pos) 1 j acc env) env >>= fun _ => again (.compLoop (E2 elt t0 i0 f0 t1 i1 f1 scope pos) 0 it acc env)) else again (.compLoop (E2 elt t0 i0 f0 t1 i1 f1 scope pos) 0 it acc env)) := by rfl
theorem turn2_in (it acc : Value) (env : Env) : compTurn (E2 elt t0 i0 f0 t1 i1 f1 scope pos) 1 it acc env = (standAt i1.pos >>= fun _ => pyNext it >>= fun r => match r with
    | none => pure (.done .next)
    | some v => letOwnedTupleGo t1 it v >>= fun _ => assign t1 env v >>= fun _ => goodX f1 env >>= fun ok => if ok = true then ((eval elt env >>= fun y => standAt elt.pos >>= fun _ => yieldOut env y >>= fun _ => pure ()) >>= fun _ => again (.compLoop (E2 elt t0 i0 f0 t1 i1 f1 scope pos) 1 it acc env)) else again (.compLoop (E2 elt t0 i0 f0 t1 i1 f1 scope pos) 1 it acc env)) := by rfl
/-- the inner loop, on the frame of the outer one; base: what the outer one still wants -/
theorem seg2_in {R : GenEnd} {I1 : Addr} {c : Code} {k : Result → Sem PySem.Fin} {l kp : List Value} {p : Pos} (hB : A.over (.compLoop (E2 elt t0 i0 f0 t1 i1 f1 scope pos) 1 (.ref I1) .none cenv) [.ret k none false l c p kp] = B) (hco : cenv.scope.isCoroutine = false) (base : Nat) (Fi : Shared → Shared → Prop)
    (after : ∀ n s₀ s, base < n → Fi s₀ s → Seg (model prog w) A R (Yx Sr C Go) n s₀ c (k (.ok .next)) [] s) (W1 : Nat → Shared → Shared → Prop)
    (turn : ∀ m s₀ s, W1 m s₀ s → wpAny (model prog w) B (pyNext (.ref I1)) (fun r s1 => match r with
      | none => Fi s₀ s1
      | some v => wpAny (model prog w) B (letOwnedTupleGo t1 (.ref I1) v) (fun _ s2 => wpAny (model prog w) B (assign t1 cenv v) (fun _ s3 => wpAny (model prog w) B (goodX f1 cenv) (fun ok s4 =>
          if ok = true then wpAny (model prog w) B (eval elt cenv) (fun y s5 => C s₀ y s5 ∧ (Go y → ∃ m', m' < m ∧ ∀ s', Sr y s5 s' → W1 m' s' s')) noX s4 else ∃ m', m' < m ∧ W1 m' s₀ s4) noX s3) noX s2) noX s1) noX s) :
    ∀ (m n : Nat) (s₀ s : Shared), base + m < n → W1 m s₀ s → Seg (model prog w) A R (Yx Sr C Go) n s₀ (.compLoop (E2 elt t0 i0 f0 t1 i1 f1 scope pos) 1 (.ref I1) .none cenv)
      ((model prog w).den (.compLoop (E2 elt t0 i0 f0 t1 i1 f1 scope pos) 1 (.ref I1) .none cenv)) [.ret k none false l c p kp] s := by
  subst hB
  intro m
  induction m using Nat.strongRecOn with
  | ind m ih =>
    intro n s₀ s hn hW
    show Seg _ A _ _ _ s₀ _ ((compTurn (E2 elt t0 i0 f0 t1 i1 f1 scope pos) 1 (.ref I1) .none cenv).onRaise (fun x => do noteFrame x cenv; theTreesLotGoes x)) _ s
    rw [turn2_in, Sem.onRaise_eq_wrap]
    refine seg_bind_wrap (wpAny_standAt ?_)
    refine seg_bind_wrap (wpAny_mono (turn m s₀ s hW) (fun r s1 h => ?_) fun _ _ e => e.elim)
    cases r with
    | none => exact seg_leaf (.ok .next) (after n s₀ s1 (by omega) h)
    | some v =>
      refine seg_bind_wrap (wpAny_mono h (fun _ s2 h => ?_) fun _ _ e => e.elim)
      refine seg_bind_wrap (wpAny_mono h (fun _ s3 h => ?_) fun _ _ e => e.elim)
      refine seg_bind_wrap (wpAny_mono h (fun ok s4 h => ?_) fun _ _ e => e.elim)
      cases ok with
      | false =>
        simp only [Bool.false_eq_true, if_false] at h ⊢
        obtain ⟨m', hm, hW'⟩ := h
        exact seg_again rfl (ih m' hm n s₀ s4 (by omega) hW')
      | true =>
        simp only [if_true] at h ⊢
        have hy : ∀ v, yieldOut cenv v = yieldValue v := fun v => by simp only [yieldOut, hco, Bool.false_eq_true, if_false]
        simp only [hy]
        rw [Sem.bind_eq_wrap', Sem.bind_eq_wrap', Sem.wrap_wrap, Sem.wrap_wrap]
        refine seg_wrap (wpAny_mono h (fun y s5 h => ?_) fun _ _ e => e.elim)
        obtain ⟨hC, hgo⟩ := h
        obtain ⟨n', rfl⟩ : ∃ n', n = n' + 1 := ⟨n - 1, by omega⟩
        refine seg_at (seg_yield rfl rfl rfl ⟨hC, fun gy s'' hs => ?_⟩)
        obtain ⟨m', hm, hW'⟩ := hgo gy
        exact seg_again rfl (ih m' hm n' s'' s'' (by omega) (hW' s'' hs))
/-- the inner loop from its beginning -/
theorem seg2_begin {R : GenEnd} {Y : Protocol} {n : Nat} {s₀ s : Shared} {I1 : Addr} {fs : List Frame}
    (self : ∀ (B : Around) (Q : Value → Shared → Prop) (E : Value → Shared → Prop), Q (.ref I1) s → wpAny (model prog w) B (pyIter (.ref I1)) Q E s)
    (loop : Seg (model prog w) A R Y n s₀ (.compLoop (E2 elt t0 i0 f0 t1 i1 f1 scope pos) 1 (.ref I1) .none cenv) ((model prog w).den (.compLoop (E2 elt t0 i0 f0 t1 i1 f1 scope pos) 1 (.ref I1) .none cenv)) fs s) :
    Seg (model prog w) A R Y n s₀ (.compStart (E2 elt t0 i0 f0 t1 i1 f1 scope pos) 1 (.ref I1) .none cenv) ((model prog w).den (.compStart (E2 elt t0 i0 f0 t1 i1 f1 scope pos) 1 (.ref I1) .none cenv)) fs s := by
  show Seg _ A _ _ _ s₀ _ ((compStart (E2 elt t0 i0 f0 t1 i1 f1 scope pos) 1 (.ref I1) .none cenv).onRaise (fun x => do noteFrame x cenv; standAt theWindowsPlace)) _ s
  unfold compStart
  rw [Sem.onRaise_eq_wrap]
  show Seg _ A _ _ _ s₀ _ ((ask >>= _).wrap _ _ _ _) _ s
  refine seg_bind_wrap (wpAny_askSetting ?_)
  split
  · exact seg_again rfl loop
  · refine seg_bind_wrap (wpAny_rule ?_)
    show Seg _ A _ _ _ s₀ _ ((standAt i1.pos >>= _).wrap _ _ _ _) _ s
    exact seg_bind_wrap (wpAny_standAt (seg_bind_wrap (self _ _ _ (seg_again rfl loop))))
/-- the outer loop; b: the most that an inner one hands out -/
theorem seg2_out {I : Addr} {Dn : Shared → Shared → Prop} (hB : A.over (.compLoop (E2 elt t0 i0 f0 t1 i1 f1 scope pos) 0 (.ref I) .none cenv) [] = B) (hco : cenv.scope.isCoroutine = false) (hs1 : ∀ x, foldedSetIterable i1 cenv x = pure x) (b : Nat) (W : Nat → Shared → Shared → Prop)
    (turn : ∀ m s₀ s, W m s₀ s → wpAny (model prog w) B (pyNext (.ref I)) (fun r s1 => match r with
      | none => Dn s₀ s1
      | some v => wpAny (model prog w) B (letOwnedTupleGo t0 (.ref I) v) (fun _ s2 => wpAny (model prog w) B (assign t0 cenv v) (fun _ s3 => wpAny (model prog w) B (goodX f0 cenv) (fun ok s4 =>
          if ok = true then wpAny (model prog w) B (eval i1 cenv) (fun x s5 => wpAny (model prog w) B (pyIter x) (fun u s6 => ∃ (I1 : Addr) (W1 : Nat → Shared → Shared → Prop), u = .ref I1 ∧ (∀ (B : Around) (Q : Value → Shared → Prop) (E : Value → Shared → Prop), Q (.ref I1) s6 → wpAny (model prog w) B (pyIter (.ref I1)) Q E s6) ∧ (∃ m1, m1 ≤ b ∧ W1 m1 s₀ s6) ∧
            ∀ m1 s₀ s, W1 m1 s₀ s → wpAny (model prog w) B (pyNext (.ref I1)) (fun r s1 => match r with
              | none => ∃ m', m' < m ∧ W m' s₀ s1
              | some v => wpAny (model prog w) B (letOwnedTupleGo t1 (.ref I1) v) (fun _ s2 => wpAny (model prog w) B (assign t1 cenv v) (fun _ s3 => wpAny (model prog w) B (goodX f1 cenv) (fun ok s4 =>
                  if ok = true then wpAny (model prog w) B (eval elt cenv) (fun y s5 => C s₀ y s5 ∧ (Go y → ∃ m', m' < m1 ∧ ∀ s', Sr y s5 s' → W1 m' s' s')) noX s4 else ∃ m', m' < m1 ∧ W1 m' s₀ s4) noX s3) noX s2) noX s1) noX s) noX s5) noX s4
          else ∃ m', m' < m ∧ W m' s₀ s4) noX s3) noX s2) noX s1) noX s) :
    ∀ (m n : Nat) (s₀ s : Shared), m * (b + 1) + b < n → W m s₀ s → Seg (model prog w) A (Rx Dn) (Yx Sr C Go) n s₀ (.compLoop (E2 elt t0 i0 f0 t1 i1 f1 scope pos) 0 (.ref I) .none cenv)
      ((model prog w).den (.compLoop (E2 elt t0 i0 f0 t1 i1 f1 scope pos) 0 (.ref I) .none cenv)) [] s := by
  subst hB
  intro m
  induction m using Nat.strongRecOn with
  | ind m ih =>
    intro n s₀ s hn hW
    have less : ∀ {m' n'}, m' < m → m * (b + 1) < n' → m' * (b + 1) + b < n' := fun {m' n'} hm hn' => by
      have := Nat.mul_le_mul_right (b + 1) (Nat.succ_le_of_lt hm)
      rw [Nat.succ_mul] at this
      omega
    show Seg _ A _ _ _ s₀ _ ((compTurn (E2 elt t0 i0 f0 t1 i1 f1 scope pos) 0 (.ref I) .none cenv).onRaise (leaving cenv)) [] s
    rw [turn2_out, Sem.onRaise_eq_wrap]
    refine seg_bind_wrap (wpAny_standAt ?_)
    refine seg_bind_wrap (wpAny_mono (turn m s₀ s hW) (fun r s1 h => ?_) fun _ _ e => e.elim)
    cases r with
    | none => exact seg_end (.ok .next) ⟨rfl, h⟩
    | some v =>
      refine seg_bind_wrap (wpAny_mono h (fun _ s2 h => ?_) fun _ _ e => e.elim)
      refine seg_bind_wrap (wpAny_mono h (fun _ s3 h => ?_) fun _ _ e => e.elim)
      refine seg_bind_wrap (wpAny_mono h (fun ok s4 h => ?_) fun _ _ e => e.elim)
      cases ok with
      | false =>
        simp only [Bool.false_eq_true, if_false] at h ⊢
        obtain ⟨m', hm, hW'⟩ := h
        exact seg_again rfl (ih m' hm n s₀ s4 (less hm (by omega)) hW')
      | true =>
        simp only [if_true] at h ⊢
        refine seg_bind_wrap (wpAny_mono h (fun x s5 h => ?_) fun _ _ e => e.elim)
        refine seg_bind_wrap (wpAny_standAt (seg_bind_wrap (wpAny_of_eq (hs1 x) (seg_bind_wrap (wpAny_holding (wpAny_mono h (fun u s6 h => ?_) fun _ _ e => e.elim))))))
        obtain ⟨I1, W1, rfl, self, ⟨m1, hb, w1⟩, turn1⟩ := h
        refine seg_call fun p => ?_
        refine seg2_begin self ?_
        exact seg2_in (over_loop rfl rfl) hco (m * (b + 1)) (fun s₀ s => ∃ m', m' < m ∧ W m' s₀ s) (fun n' s₀ s hn' h => by
          obtain ⟨m', hm, hW'⟩ := h
          exact seg_again rfl (ih m' hm n' s₀ s (less hm hn') hW')) W1 turn1 m1 n s₀ s6 (by omega) w1
end
section
variable {prog : Program} {w : World} {A : Around} {elt t0 i0 t1 i1 : Expr} {f0 f1 : List Expr} {scope : Scope} {pos : Pos} {cenv : Env}
/-- the outer loop from its beginning -/
theorem seg2_start {R : GenEnd} {Y : Protocol} {n : Nat} {s₀ s : Shared} {I : Addr} (self : ∀ (B : Around) (Q : Value → Shared → Prop) (E : Value → Shared → Prop), Q (.ref I) s → wpAny (model prog w) B (pyIter (.ref I)) Q E s)
    (loop : Seg (model prog w) A R Y n s₀ (.compLoop (E2 elt t0 i0 f0 t1 i1 f1 scope pos) 0 (.ref I) .none cenv) ((model prog w).den (.compLoop (E2 elt t0 i0 f0 t1 i1 f1 scope pos) 0 (.ref I) .none cenv)) [] s) :
    Seg (model prog w) A R Y n s₀ (.compStart (E2 elt t0 i0 f0 t1 i1 f1 scope pos) 0 (.ref I) .none cenv) ((model prog w).den (.compStart (E2 elt t0 i0 f0 t1 i1 f1 scope pos) 0 (.ref I) .none cenv)) [] s := by
  show Seg _ A _ _ _ s₀ _ ((compStart (E2 elt t0 i0 f0 t1 i1 f1 scope pos) 0 (.ref I) .none cenv).onRaise (leaving cenv)) [] s
  unfold compStart
  rw [Sem.onRaise_eq_wrap]
  show Seg _ A _ _ _ s₀ _ ((ask >>= _).wrap _ _ _ _) _ s
  refine seg_bind_wrap (wpAny_askSetting ?_)
  split
  · exact seg_again rfl loop
  · refine seg_bind_wrap (wpAny_rule ?_)
    show Seg _ A _ _ _ s₀ _ ((standAt i0.pos >>= _).wrap _ _ _ _) _ s
    exact seg_bind_wrap (wpAny_standAt (seg_bind_wrap (self _ _ _ (seg_again rfl loop))))
/-- an inner walk, with the most turns that it can have -/
theorem walk_in {J : It} {n b : Nat} {G : Hp → Prop} {Y : Nat → Hp → V → Hp → Prop} {Body : (Hp → Prop) → V → Hp → Prop} {End : Hp → Prop} {Hs : Hp} (w : Walk J n G Y) (hb : n ≤ b) (Pv : Nat → Hp → Prop) (first : Pv 0 Hs) (stands : ∀ i H, i ≤ n → Pv i H → G H)
    (turn : ∀ i x H H', i < n → Pv i H → Y i H x H' → Body (Pv (i + 1)) x H') (last : ∀ H, Pv n H → End H) :
    ∃ W : Nat → Nat → Hp → Prop, (∃ m, m ≤ b ∧ W 0 m Hs) ∧ ∀ i m H, W i m H → (J.stop i H ∧ End H) ∨ (J.go i H ∧ ∃ Nx : Hp → Prop, (∀ H', Nx H' → ∃ m', m' < m ∧ W (i + 1) m' H') ∧ ∀ x H', J.yld i H x H' → Body Nx x H') := by
  refine ⟨fun i left H => i + left = n ∧ Pv i H, ⟨n, hb, Nat.zero_add n, first⟩, fun i left H here => ?_⟩
  obtain ⟨count, now⟩ := here
  cases left with
  | zero =>
    obtain rfl : i = n := count
    exact .inl ⟨w.stops H (stands _ H (Nat.le_refl _) now), last H now⟩
  | succ fewer =>
    have more : i < n := by omega
    exact .inr ⟨w.goes i H more (stands _ H (Nat.le_of_lt more) now), Pv (i + 1), fun H' then_ => ⟨fewer, Nat.lt_succ_self fewer, by omega, then_⟩, fun x H' given => turn i x H H' more now (w.yields i H x H' more (stands _ H (Nat.le_of_lt more) now) given)⟩
end
end Gx
end PySem
/-! ### an expression with several clauses is made -/
namespace PySem
namespace Gx
open PySem.W PySem.Calls PyProof.Rows L2 GenW
theorem eval_genC (elt t0 i0 : Expr) (f0 : List Expr) (more0 : List Comprehension) (scope : Scope) (pos : Pos) (env : Env) (hco : scope.isCoroutine = false) : eval (.GeneratorExp elt (⟨t0, i0, f0, 0⟩ :: more0) scope pos) env =
    (eval i0 env >>= fun x => standAt i0.pos >>= fun _ => genFold i0 env x >>= fun x => holding [x] (pyIter x) >>= fun it => enterFrame >>= fun _ => closureFor scope env >>= fun cl => genexprCode env pos (env.qual ++ "<genexpr>") scope >>= fun code => builtinsFor env.globals env.builtins >>= fun bi =>
      newFunctionEnv scope env.globals cl [(".0", it)] (env.qual ++ "<genexpr>.") none code none bi >>= fun cenv => newGenerator (.compStart (.GeneratorExp elt (⟨t0, i0, f0, 0⟩ :: more0) scope pos) 0 it .none cenv) "<genexpr>" (env.qual ++ "<genexpr>")) := by
  rw [arm_eval_GeneratorExp]
  simp only [hco, Bool.false_eq_true, if_false]; cases i0 <;> rfl
theorem wp_genC {M : Model} {A : Around} {E : Value → Shared → Prop} {s : Shared} {env : Env} {elt t0 i0 : Expr} {f0 : List Expr} {more0 : List Comprehension} {scope : Scope} {cl : List (Str × Addr)} {pos : Pos} {Q : Value → Shared → Prop} (hco : scope.isCoroutine = false)
    (hcl : closureFor scope env = pure cl) (noC : ∀ y ∈ scope.names, y.2 ≠ .cell) (dot : scope.names.lookup (".0" : Str) = some NameKind.local) (kd : scope.kind = .function) (room : A.depth < recursionLimit)
    (h : wpAny M A (eval i0 env) (fun xv s1 => wpAny M A (pyIter xv) (fun it s2 => s2.heap.NoLimit ∧ wpAny M A (genexprCode env pos (env.qual ++ "<genexpr>") scope) (fun code s3 => wpAny M A (builtinsFor env.globals env.builtins) (fun bi s4 =>
        ∀ h', h'.Ns s4.heap.objs.size (fun y => if y = ".0" then some it else none) → Heap.SameBut s4.heap.objs.size (s4.heap.push { cls := .type "frame", data := .dict #[] }) h' → Q (.ref h'.objs.size) { s4 with
            gens := s4.gens.push (.fresh (.compStart (.GeneratorExp elt (⟨t0, i0, f0, 0⟩ :: more0) scope pos) 0 it .none (genEnv scope cl s4.heap.objs.size code bi env))), toks := s4.toks + 1 + 1 + 1,
            heap := h'.push { cls := .type "generator", data := .fields #[.int s4.gens.size 0, .str "<genexpr>" (s4.toks + 1), .str (env.qual ++ "<genexpr>") (s4.toks + 1 + 1)] } }) E s3) E s2) E s1) E s)
    (hs : ∀ x, genFold i0 env x = pure x) : wpAny M A (eval (.GeneratorExp elt (⟨t0, i0, f0, 0⟩ :: more0) scope pos) env) Q E s := by
  rw [eval_genC _ _ _ _ _ _ _ _ hco, hcl]
  refine wpAny_bind (wpAny_mono h (fun xv s1 h1 => wpAny_bind (wpAny_standAt (wpAny_bind (wpAny_of_eq (hs xv) (wpAny_bind (wpAny_holding (wpAny_mono h1 (fun it s2 h2 => ?_) fun _ _ e => e))))))) fun _ _ e => e)
  refine wpAny_bind (wpAny_enterFrame h2.1 room (wpAny_bind (wpAny_pure (wpAny_bind (wpAny_mono h2.2 (fun code s3 h3 => wpAny_bind (wpAny_mono h3 (fun bi s4 h4 => ?_) fun _ _ e => e)) fun _ _ e => e)))))
  refine wpAny_bind (wpAny_newFunctionEnv noC (fun y hy => by obtain rfl := List.mem_singleton.mp hy; exact dot) (fun h' hn' hs' => ?_) kd)
  rw [show (fun y : Str => ([((".0" : Str), it)] : List (Str × Value)).reverse.lookup y) = fun y : Str => if y = (".0" : Str) then some it else none from funext fun y => by
    by_cases hy : y = ".0"
    · subst hy; simp
    · simp [List.lookup, show (y == (".0" : Str)) = false by simpa using hy, hy]] at hn'
  simp only [newGenerator, newFields]
  exact wpAny_bind (wpAny_newGen (wpAny_bind (wpAny_mkText (wpAny_bind (wpAny_mkText (wpAny_newObj_type (h4 h' hn' hs') (by size_fits)))))))
section
variable {X : L2.Cx} {pins : List (Addr × Obj)} {σ : L2.St} {H : Hp} {s : Shared}
theorem gen_make2 {c P : Addr} {elt tg iter : Expr} {ifs : List Expr} {more0 : List Comprehension} {x : Str} {gpos : Pos} {scope : Scope} {wi : TI} {k : Nat} {Q' : Value → Shared → Prop} {R : It → Hp → Prop}
    (hr : Room k X.A) (TB : GxR.TabB X.base X.mg c P) (hcode : X.env.code = .ref c) (S : GxR.GenS X.env scope x) (hi : PI X tg iter wi) (hs : ∀ v, genFold iter X.env v = pure v)
    (I : Inv X pins σ H s) (h : wi σ H fun J H1 => GxR.TabG H1 P ∧ R J H1)
    (hQ : ∀ (it : Addr) (fp : List Addr) (tn : Nat → Heap → Prop) (J : It) (H1 H2 : Hp) (code : Value) (C a : Addr) (g : Nat) (s4 s5 : Shared), R J H1 → GxR.Tabbed P H1 H2 → Inv X pins σ H2 s4 → s4.heap.objs.size = C → (∀ b o, s4.heap.get? b = some o → s5.heap.get? b = some o) → s5.os = s4.os → tn 0 s4.heap → Inv X pins σ H2 s5 → Turn X.prog X.w X.K tg J fp it tn → tn 0 s5.heap → (∀ b ∈ fp, FpOk X pins H2 b) →
      s5.heap.Ns C (fun y => if y = ".0" then some (.ref it) else none) → FpOk X pins H2 C → C ∉ fp → s5.heap.IsGen a g → FpOk X pins H2 a → a ∉ fp → a ≠ C →
      s5.gens[g]? = some (.fresh (.compStart (.GeneratorExp elt (⟨tg, iter, ifs, 0⟩ :: more0) scope gpos) 0 (.ref it) .none (genEnv scope (cloFrom X.env.cells scope.names []) C code builtinsNs X.env))) → Q' (.ref a) s5) :
    wpAny (model X.prog X.w) X.A (eval (.GeneratorExp elt (⟨tg, iter, ifs, 0⟩ :: more0) scope gpos) X.env) Q' X.xe s := by
  refine wp_genC S.co (closure_ok S.free) S.cell S.dot S.kind (by have := hr.dp; omega) ?_ hs
  refine thn (hi.run pins s σ H _ I h) fun xv s1 h1 => thn h1 fun itv s2 h2 => ?_
  obtain ⟨it, fp, tn, J, H1, rfl, I2, T, st2, f2, ⟨ps, hP, ht⟩, q⟩ := h2
  have hPs : s2.heap.get? P = some { cls := .none, data := .fields ps } := I2.hok P _ hP
  have hPlt : P < s2.heap.objs.size := Heap.lt_size hPs
  have cd : PySem.W.CodeHd s2.heap c P := TB.code.keeps fun b u e => I2.bk b u e
  have cont : ∀ (code : Value) (h3 : Heap) (tk : Nat) (ps' : Array Value), Heap.ExtBut P s2.heap h3 → s2.heap.objs.size ≤ h3.objs.size → h3.get? P = some { cls := .none, data := .fields ps' } → (∃ more, ps' = ps ++ more) → TriplesOk ps'.toList →
      wpAny (model X.prog X.w) X.A (builtinsFor X.env.globals X.env.builtins) (fun bi s₄ =>
        ∀ h', h'.Ns s₄.heap.objs.size (fun y => if y = ".0" then some (.ref it) else none) → Heap.SameBut s₄.heap.objs.size (s₄.heap.push { cls := .type "frame", data := .dict #[] }) h' →
          Q' (.ref h'.objs.size) { s₄ with
            gens := s₄.gens.push (.fresh (.compStart (.GeneratorExp elt (⟨tg, iter, ifs, 0⟩ :: more0) scope gpos) 0 (.ref it) .none (genEnv scope (cloFrom X.env.cells scope.names []) s₄.heap.objs.size code bi X.env))),
            toks := s₄.toks + 1 + 1 + 1,
            heap := h'.push { cls := .type "generator", data := .fields #[.int s₄.gens.size 0, .str "<genexpr>" (s₄.toks + 1), .str (X.env.qual ++ "<genexpr>") (s₄.toks + 1 + 1)] } }) X.xe { s2 with heap := h3, toks := tk } := by
    intro code h3 tk ps' hx hsz hP3 hmore ht3
    obtain ⟨bm, ob, e1, e2, e3, e4, e5, e6, e7, e8⟩ := TB.bm
    refine wpAny_builtinsFor (m := X.mg) (by rw [I2.ok.glob]; exact (I2.mod.glob.keeps I2.bk).extBut hx TB.gP) e1 e2 (hx _ _ e4 (I2.bk _ _ e5)) e6 e7 e8 ?_
    intro h' hn' hs'
    have hsz' : h'.objs.size = h3.objs.size + 1 := by rw [hs'.1, Heap.size_push]
    have keep' : ∀ b o, h3.get? b = some o → h'.get? b = some o := fun b o e => hs'.extBut b o (Nat.ne_of_lt (Heap.lt_size e)) (Heap.get?_push_of_some _ e)
    have keep5 : ∀ b o, b ≠ P → s2.heap.get? b = some o → (h'.push { cls := .type "generator", data := .fields #[.int s2.gens.size 0, .str "<genexpr>" (tk + 1), .str (X.env.qual ++ "<genexpr>") (tk + 1 + 1)] }).get? b = some o :=
      fun b o hb e => Heap.get?_push_of_some _ (keep' b o (hx b o hb e))
    obtain ⟨more, em⟩ := hmore
    have nfP : ∀ b ∈ fp, b ≠ P := fun b hb e => by
      have := (f2 b hb).1
      rw [e, hP] at this
      cases this
    have fok : ∀ b, FpOk X pins H1 b → FpOk X pins (upd H1 P (.tbl (ps ++ more))) b := fun b hb => by
      have nb : b ≠ P := fun e => by
        have := hb.1
        rw [e, hP] at this
        cases this
      exact ⟨by rw [upd_ne nb]; exact hb.1, hb.2⟩
    have hCf : (h3.objs.size : Nat) ∉ fp := fun hb => by
      obtain ⟨o, ho, _⟩ := T.obj _ _ st2 _ hb
      exact absurd (Nat.lt_of_lt_of_le (Heap.lt_size ho) hsz) (Nat.lt_irrefl _)
    have hge : s2.heap.objs.size ≤ h'.objs.size := by rw [hsz']; exact Nat.le_succ_of_le hsz
    have haf : (h'.objs.size : Nat) ∉ fp := fun hb => by
      obtain ⟨o, ho, _⟩ := T.obj _ _ st2 _ hb
      exact absurd (Nat.lt_of_lt_of_le (Heap.lt_size ho) hge) (Nat.lt_irrefl _)
    have J5 := GxR.inv_tab (more := more) (h' := h'.push { cls := .type "generator", data := .fields #[.int s2.gens.size 0, .str "<genexpr>" (tk + 1), .str (X.env.qual ++ "<genexpr>") (tk + 1 + 1)] })
      (g' := s2.gens.push (.fresh (.compStart (.GeneratorExp elt (⟨tg, iter, ifs, 0⟩ :: more0) scope gpos) 0 (.ref it) .none (genEnv scope (cloFrom X.env.cells scope.names []) h3.objs.size code builtinsNs X.env)))) (d' := s2.drawn) (t' := tk + 1 + 1 + 1)
      I2 hP keep5 (by rw [← em]; exact Heap.get?_push_of_some _ (keep' P _ hP3)) (I2.bare.push rfl)
    have J4 := GxR.inv_tab (more := more) (h' := h3) (g' := s2.gens) (d' := s2.drawn) (t' := tk) I2 hP (fun b o hb e => hx b o hb e) (by rw [← em]; exact hP3) I2.bare
    refine hQ it fp tn J H1 (upd H1 P (.tbl (ps ++ more))) code h3.objs.size h'.objs.size s2.gens.size _ _ q ⟨⟨ps ++ more, upd_same, by rw [← em]; exact ht3⟩, fun b hb => upd_ne hb⟩ J4 rfl (fun b o e => Heap.get?_push_of_some _ (keep' b o e)) rfl (T.keep _ _ _ st2 fun b hb o e => hx b o (nfP b hb) e) J5 T
      (T.keep _ _ _ st2 fun b hb o e => keep5 b o (nfP b hb) e) (fun b hb => fok b (f2 b hb)) (hn'.push _) (fok _ (I2.fpOk hsz (I2.hok.fresh hsz))) hCf ⟨_, _, _, Heap.get?_push_size _ rfl, rfl, rfl, rfl⟩
      (fok _ (I2.fpOk hge (I2.hok.fresh hge))) haf (by rw [hsz']; exact Nat.succ_ne_self _) (Array.getElem?_push_size ..)
  refine ⟨I2.nolimit, ?_⟩
  cases hf : codeAmong gpos ps.toList with
  | none =>
    refine wpAny_genexprCodeX hcode (cd.code hPs ht) (cd.tab hPs) hf fun c' h' tk hx hge hlt hco' _ htab' _ => ?_
    obtain ⟨o1, vs, f1, tf, fl, tg', inF, tx, tt, op, _, _, _, _, _, _, _, _, _, htr, _⟩ := hco'
    exact cont _ h' tk _ hx (Nat.le_trans hge (Nat.le_of_lt hlt)) htab'.2 ⟨_, rfl⟩ htr
  | some cv =>
    refine wpAny_genexprCode_hit hcode (cd.code hPs ht) hf ?_
    exact cont cv s2.heap s2.toks ps (Heap.ExtBut.refl _ _) (Nat.le_refl _) hPs ⟨#[], by simp⟩ ht
end
end Gx
end PySem
/-! ### the rule -/
namespace PySem
namespace Gx
open PySem.W PySem.Calls PyProof.Rows L2 GenW
theorem gx_frames2 {A : Around} {elt tg iter tg1 iter1 : Expr} {ifs ifs1 : List Expr} {scope : Scope} {pos : Pos} {it : Value} {env : Env} {l : List Env} (hf : env.frame = some env.locals) (h : A.frames = some l) :
    (A.over (.compLoop (E2 elt tg iter ifs tg1 iter1 ifs1 scope pos) 0 it .none env) []).frames = some (env :: l) := by
  obtain ⟨hd, d, fr, gs, u⟩ := A
  have h : fr = some l := h
  subst h
  simp [Around.over, envsOf, pushEnvs, Code.envs, Code.env?, Code.isFrame]
/-- all(e for t in it if c for t1 in it1 if c1), any(..): b: the most turns of an inner walk -/
def tGen2 (stop : Bool) (wi : TI) (g : TG) (tt : TT) (wi1 : TI) (g1 : TG) (tt1 : TT) (te : TE) (vs vs1 : List Nat) (P : Addr) : TE := fun σ H Q => wi σ H fun J H1 => GxR.TabG H1 P ∧ ∀ H2, GxR.Tabbed P H1 H2 → ∃ b : Nat, ∃ W : Nat → Nat → Hp → Prop, (∃ m, W 0 m H2) ∧ ∀ i m H, W i m H →
  (J.stop i H ∧ Q (.bl (!stop)) H) ∨ (J.go i H ∧ ∃ Nx : Hp → Prop, (∀ H', Nx H' → ∃ m', m' < m ∧ W (i + 1) m' H') ∧ ∀ x H', J.yld i H x H' → g x (wipe σ vs) H' fun σ2 H2 => wipe σ2 vs = wipe σ vs ∧ tt σ2 H2 fun c H3 =>
    if c = true then wi1 σ2 H3 fun J1 H4 => ∃ W1 : Nat → Nat → Hp → Prop, (∃ m, m ≤ b ∧ W1 0 m H4) ∧ ∀ j k H, W1 j k H →
      (J1.stop j H ∧ Nx H) ∨ (J1.go j H ∧ ∃ Nx1 : Hp → Prop, (∀ H', Nx1 H' → ∃ k', k' < k ∧ W1 (j + 1) k' H') ∧ ∀ x H', J1.yld j H x H' → g1 x (wipe σ2 vs1) H' fun σ3 H5 => wipe σ3 vs1 = wipe σ2 vs1 ∧ tt1 σ3 H5 fun c H6 =>
        if c = true then te σ3 H6 fun y H7 => ∃ c, y = .bl c ∧ if c = stop then Q (.bl stop) H7 else Nx1 H7 else Nx1 H6)
    else Nx H3)
section
variable {X : L2.Cx} {pins : List (Addr × Obj)} {σ : L2.St} {H : Hp} {s : Shared}
theorem pe_gen2 (stop : Bool) {c P : Addr} {elt tg iter tg1 iter1 : Expr} {ifs ifs1 : List Expr} {x : Str} {f : String} {p pos gpos : Pos} {scope : Scope} {own : List (Str × Nat)} {vs1 : List Nat} {wi wi1 : TI} {g g1 : TG} {tt tt1 : TT} {te : TE} {k : Nat} (hf : f = if stop = true then "any" else "all")
    (hr : Room (k + 3) X.A) (hc : X.calm = true) (hN : X.N.Nodup) (hg : Gl X f) (hm : X.mg f = none) (TB : GxR.TabB X.base X.mg c P) (hcode : X.env.code = .ref c) (S : GxR.GenS X.env scope x) (ok : BlkOk X.N X.env.scope scope own) (hv : ∀ i ∈ vs1, i ∈ own.map (·.2))
    (hi : PI X tg iter wi)
    (ht : ∀ (B : Around) (s : Shared) (H : Hp) (C : Addr) (code : Value) (fp : List Addr) (pn : List (Addr × Obj)), Room k B → PG (gcx X B s H (genEnv scope (cloFrom X.env.cells scope.names []) C code builtinsNs X.env) fp pn) tg g)
    (hts : ∀ (B : Around) (s : Shared) (H : Hp) (C : Addr) (code : Value) (fp : List Addr) (pn : List (Addr × Obj)), Room k B → PTs (gcx X B s H (genEnv scope (cloFrom X.env.cells scope.names []) C code builtinsNs X.env) fp pn) ifs tt)
    (hi1 : ∀ (B : Around) (s : Shared) (H : Hp) (C : Addr) (code : Value) (fp : List Addr) (pn : List (Addr × Obj)), Room k B → PI (gcx X B s H (genEnv scope (cloFrom X.env.cells scope.names []) C code builtinsNs X.env) fp pn) tg1 iter1 wi1)
    (ht1 : ∀ (B : Around) (s : Shared) (H : Hp) (C : Addr) (code : Value) (fp : List Addr) (pn : List (Addr × Obj)), Room k B → PG (gcx X B s H (genEnv scope (cloFrom X.env.cells scope.names []) C code builtinsNs X.env) fp pn) tg1 g1)
    (hts1 : ∀ (B : Around) (s : Shared) (H : Hp) (C : Addr) (code : Value) (fp : List Addr) (pn : List (Addr × Obj)), Room k B → PTs (gcx X B s H (genEnv scope (cloFrom X.env.cells scope.names []) C code builtinsNs X.env) fp pn) ifs1 tt1)
    (hel : ∀ (B : Around) (s : Shared) (H : Hp) (C : Addr) (code : Value) (fp : List Addr) (pn : List (Addr × Obj)), Room k B → PE (gcx X B s H (genEnv scope (cloFrom X.env.cells scope.names []) C code builtinsNs X.env) fp pn) elt te)
    (hs : ∀ v, genFold iter X.env v = pure v) (hs1 : ∀ env v, foldedSetIterable iter1 env v = pure v)
    (he : starEach [.GeneratorExp elt [⟨tg, iter, ifs, 0⟩, ⟨tg1, iter1, ifs1, 0⟩] scope gpos] X.env = (false, eval (E2 elt tg iter ifs tg1 iter1 ifs1 scope gpos) X.env) :: starEach [] X.env := by rfl) :
    PE X (.Call (.Name f p) [.GeneratorExp elt [⟨tg, iter, ifs, 0⟩, ⟨tg1, iter1, ifs1, 0⟩] scope gpos] [] pos) (tGen2 stop wi g tt wi1 g1 tt1 te (own.map (·.2)) vs1 P) := by
  refine ⟨fun pins s σ H Q I h => ?_⟩
  have hstk := I.ok.frames
  have fin : ∀ (a : Addr) (g : Nat) (m : Nat) (s5 : Shared), Wx X.prog X.w X.A.in1.in1 a g stop (Cx a g stop fun s' => ∃ v H', Inv X pins σ H' s' ∧ RelV v (.bool stop) ∧ Q v H') (Dx fun s' => ∃ v H', Inv X pins σ H' s' ∧ RelV v (.bool !stop) ∧ Q v H') m s5 →
      wpAny (model X.prog X.w) X.A (call (.builtin f) [.ref a]) (fun u s' => ∃ v H', Inv X pins σ H' s' ∧ RelV v u ∧ Q v H') X.xe s5 := by
    intro a g m s5 hW
    subst hf
    cases stop with
    | false => exact call_all_gen (Q := fun u s' => ∃ v H', Inv X pins σ H' s' ∧ RelV v u ∧ Q v H') hr.hd (by have := hr.dp; omega) hW
    | true => exact call_any_gen (Q := fun u s' => ∃ v H', Inv X pins σ H' s' ∧ RelV v u ∧ Q v H') hr.hd (by have := hr.dp; omega) hW
  have hb : bootBuiltins f = some (.builtin f) := by subst hf; cases stop <;> decide +kernel
  refine wpAny_Call_Name_kw (ld_blt I hg hm hb ?_ (by subst hf; cases stop <;> decide) (by subst hf; cases stop <;> decide))
  refine PyProof.Rows.callWith_builtin1 ?_ he (by rfl)
  rw [he]
  show wpAny _ _ (spliced ((false, eval (E2 elt tg iter ifs tg1 iter1 ifs1 scope gpos) X.env) :: backTo pos (starEach [] X.env))) _ _ s
  refine Calls.spliced_cons (gen_make2 (more0 := [⟨tg1, iter1, ifs1, 0⟩]) hr TB hcode S hi hs I h fun it fp tn J H1 H2 code C a gi s4 s5 q tab I4 hC keep os st4 I5 T st5 f2 hns fC hCf hgen fa haf haC hgs => ?_)
  refine Calls.spliced_nil ?_
  obtain ⟨bd, W, ⟨m0, w0⟩, turn⟩ := q H2 tab
  subst hC
  have lt4 : ∀ b ∈ fp, b < s4.heap.objs.size := fun b hb => by
    obtain ⟨o, ho, _⟩ := T.obj _ _ st4 b hb
    exact Heap.lt_size ho
  obtain ⟨ga, gnm, gqn, gho, gr⟩ := id hgen
  obtain ⟨gcl, gdt, gsl⟩ := gr
  generalize hCE : genEnv scope (cloFrom X.env.cells scope.names []) s4.heap.objs.size code builtinsNs X.env = ce at hgs
  have hfr : ce.frame = some ce.locals := by rw [← hCE]; rfl
  have hce : ce.scope.isCoroutine = false := by rw [← hCE]; exact S.co
  generalize hBB : X.A.in1.in1.over (.compLoop (E2 elt tg iter ifs tg1 iter1 ifs1 scope gpos) 0 (.ref it) .none ce) [] = B
  have hBh : B.handled = none := by rw [← hBB]; exact hr.hd
  have hBf : B.frames = some (ce :: X.stack) := by rw [← hBB]; exact gx_frames2 hfr hstk
  have rb : Room k B := by
    rw [← hBB]
    refine ⟨hr.hd, ?_, ?_⟩
    · have := hr.dp
      show X.A.depth + 1 + 3 * k + 5 < recursionLimit; omega
    · have := hr.un
      show X.A.units + 5 + 16 * k + 200 < cLine; omega
  have I6 := gx_start (code := code) (it := .ref it) (own := own) (pn := [(a, ga)]) I4 I5 ok hN S.cell hc (B := B) hBh (by rw [hCE]; exact hBf) (fun b hb => ⟨f2 b hb, Nat.ne_of_lt (lt4 b hb)⟩) keep os hns (fun p hp => by
      rw [List.mem_singleton.mp hp]
      refine ⟨gho, fa.1, haC, fun z => ?_, fun v z => ?_⟩
      · rcases List.mem_cons.mp (I4.stkSub a z) with z | z
        · exact fa.2.1 z
        · exact fa.2.2.1 z
      · rw [gdt] at z; cases z)
  have pg := ht B s4 H2 s4.heap.objs.size code fp [(a, ga)] rb
  have pt := hts B s4 H2 s4.heap.objs.size code fp [(a, ga)] rb
  have pi1 := hi1 B s4 H2 s4.heap.objs.size code fp [(a, ga)] rb
  have pg1 := ht1 B s4 H2 s4.heap.objs.size code fp [(a, ga)] rb
  have pt1 := hts1 B s4 H2 s4.heap.objs.size code fp [(a, ga)] rb
  have pe := hel B s4 H2 s4.heap.objs.size code fp [(a, ga)] rb
  rw [hCE] at I6 pg pt pi1 pg1 pt1 pe
  generalize hY : gcx X B s4 H2 ce fp [(a, ga)] = Y at I6 pg pt pi1 pg1 pt1 pe
  have hYp : Y.prog = X.prog := by rw [← hY]
  have hYw : Y.w = X.w := by rw [← hY]
  have hYK : Y.K = X.K := by rw [← hY]
  have hYA : Y.A = B := by rw [← hY]
  have hYe : Y.env = ce := by rw [← hY]
  have hYc : Y.calm = true := by rw [← hY]; exact hc
  have hYpn : Y.pn = [(a, ga)] := by rw [← hY]
  have hYex : Y.ex = fp := by rw [← hY]
  have hYx : Y.xe = noX := by rw [← hY]
  have back : ∀ {ps : List (Addr × Obj)} {σ' : L2.St} {H' : Hp} {s1 s' : Shared}, Inv Y ps σ' H' s1 → Ex s1 s' → Inv X pins σ H' s' := fun Ig e => by
    rw [← hY] at Ig
    exact gx_back I4 f2 Ig e
  have stat : ∀ {σ' : L2.St} {H' : Hp} {s' : Shared}, Inv Y [] σ' H' s' → (∀ b ∈ fp, H' b = none) → ∀ b ∈ fp, FpOk Y [] H' b := fun {σ' H' s'} I' hn b hb =>
    ⟨hn b hb, (I'.ok.exf b (by rw [hYex]; exact hb)).1, I'.ok.exfs b (by rw [hYex]; exact hb), .inl (by rw [hYex]; exact hb), fun x c e => (I'.ok.exf b (by rw [hYex]; exact hb)).2 x c e, fun p hp => by
      rw [hYpn, List.append_nil, List.mem_singleton] at hp
      rw [hp]
      exact fun z => haf (by rw [show a = b from z]; exact hb)⟩
  have gst : ∀ {ps : List (Addr × Obj)} {σ' : L2.St} {H' : Hp} {s' : Shared}, Inv Y ps σ' H' s' → s'.heap.IsGen a gi := fun {ps σ' H' s'} I' => ⟨ga, gnm, gqn, (I'.pin (a, ga) (List.mem_append_left _ (by rw [hYpn]; exact List.mem_singleton.mpr rfl))).1, gcl, gdt, gsl⟩
  clear hY
  subst hYA hYe
  have thnY : ∀ {α : Type} {M : Model} {A : Around} {m : Sem α} {Q Q' : α → Shared → Prop} {s : Shared}, wpAny M A m Q Y.xe s → (∀ a s', Q a s' → Q' a s') → wpAny M A m Q' noX s := fun {α M A m Q Q' s} h k => by
    rw [hYx] at h
    exact thnF h k
  have step : ∀ m, W 0 m H2 → Seg (model X.prog X.w) X.A.in1.in1 (Rx fun _ => Dx fun s' => ∃ v H', Inv X pins σ H' s' ∧ RelV v (.bool !stop) ∧ Q v H') (Yx (fun _ => Sl) (fun _ => Cx a gi stop fun s' => ∃ v H', Inv X pins σ H' s' ∧ RelV v (.bool stop) ∧ Q v H') fun v => v = .bool (!stop)) (m * (bd + 1) + bd + 1) (s5.setGen gi .running)
      (.compLoop (E2 elt tg iter ifs tg1 iter1 ifs1 scope gpos) 0 (.ref it) .none Y.env) ((model X.prog X.w).den (.compLoop (E2 elt tg iter ifs tg1 iter1 ifs1 scope gpos) 0 (.ref it) .none Y.env)) [] (s5.setGen gi .running) := by
    intro m w0
    refine seg2_out hBB hce (hs1 _) bd (fun m _ s => ∃ i H', Inv Y [] (wipe σ (own.map (·.2))) H' s ∧ tn i s.heap ∧ (∀ b ∈ fp, H' b = none) ∧ W i m H') ?_ m _ _ _ (Nat.lt_succ_self _) ⟨0, H2, inv_sl (s := s5) I6 ⟨rfl, allBare_setGen I5.bare rfl, rfl⟩, st5, fun b hb => (f2 b hb).1, w0⟩
    rintro m _ s5' ⟨i, H5, I5', st5', n5, w5⟩
    rcases turn i m H5 w5 with ⟨stop_, qq⟩ | ⟨go, Nx, hNx, step⟩
    · refine thnF (T.done Y hYp hYw hYK hYc i [] s5' _ H5 (fun _ _ => False) I5' (stat I5' n5) st5' stop_) fun r s6 ⟨hr6, I6⟩ => ?_
      subst hr6
      exact ⟨I6.bare, fun s' ex => ⟨.bl (!stop), H5, back I6 ex, rfl, qq⟩⟩
    refine thnF (T.item Y hYp hYw hYK hYc i [] s5' _ H5 (fun _ _ => False) I5' (stat I5' n5) st5' go) fun r s6 ⟨u, hr6, h6⟩ => ?_
    subst hr6
    refine thnF h6 fun _ s7 ⟨x, H7, I7, r7, y7, st7, n7⟩ => ?_
    have I7' := I7.pinned (stat I7 n7) (T.obj _ _ st7)
    rw [← hYp, ← hYw]
    refine thnY (pg.run _ s7 _ H7 x u _ I7' r7 (step x H7 y7)) fun _ s8 ⟨σ8, H8, I8, hw8, q8⟩ => ?_
    refine thnY (pt.run _ s8 σ8 H8 _ I8 q8) fun b s9 ⟨H9, I9, q9⟩ => ?_
    have hl8 : (wipe σ (own.map (·.2))).length = σ8.length := by rw [← hw8, wipe_length]
    have hk8 : ∀ (j : Nat) v, (wipe σ (own.map (·.2)))[j]? = some (some v) → σ8[j]? = some (some v) := fun j v e => by
      rw [← hw8] at e
      exact (wipe_some e).1
    have hk9 : ∀ (j : Nat) v, (wipe σ (own.map (·.2)))[j]? = some (some v) → (wipe σ8 vs1)[j]? = some (some v) := fun j v e => by
      rw [← hw8] at e
      obtain ⟨e1, e2⟩ := wipe_some e
      rw [wipe_out fun z => e2 (hv j z)]
      exact e1
    have fin2 : ∀ {σ9 : L2.St} {s' : Shared} {H' : Hp}, Inv Y ([] ++ pinsAt fp s7.heap) σ9 H' s' → (wipe σ (own.map (·.2))).length = σ9.length → (∀ (j : Nat) v, (wipe σ (own.map (·.2)))[j]? = some (some v) → σ9[j]? = some (some v)) → Nx H' →
        ∃ m', m' < m ∧ ∃ i H', Inv Y [] (wipe σ (own.map (·.2))) H' s' ∧ tn i s'.heap ∧ (∀ b ∈ fp, H' b = none) ∧ W i m' H' := fun {σ9 s' H'} I' hl hk nx => by
      obtain ⟨m', hm, w'⟩ := hNx H' nx
      have pin' : ∀ b ∈ fp, ∀ o, s7.heap.get? b = some o → s'.heap.get? b = some o ∧ H' b = none := fun b hb o e =>
        let z := I'.pin (b, o) (List.mem_append_right _ (List.mem_append_right _ (mem_pinsAt hb e)))
        ⟨z.1, z.2.1⟩
      refine ⟨m', hm, i + 1, H', (I'.unpinned (pins := [])).weak hl hk, T.keep _ _ _ st7 fun b hb o e => (pin' b hb o e).1, fun b hb => ?_, w'⟩
      obtain ⟨o, e, _⟩ := T.obj _ _ st7 b hb
      exact (pin' b hb o e).2
    cases b with
    | false =>
      simp only [Bool.false_eq_true, if_false] at q9 ⊢
      exact fin2 I9 hl8 hk8 q9
    | true =>
      simp only [if_true] at q9 ⊢
      refine thnY (pi1.run _ s9 σ8 H9 _ I9 q9) fun xv s10 hx => thnY hx fun itv s11 h11 => ?_
      obtain ⟨it1, fp1, tn1, J1, H11, rfl, I11, T1, st11, f11, W1, ⟨m1, hm1, w1⟩, turn1⟩ := h11
      have stat1 : ∀ {H' : Hp}, (∀ b ∈ fp1, H' b = none) → ∀ b ∈ fp1, FpOk Y ([] ++ pinsAt fp s7.heap) H' b := fun hn b hb => ⟨hn b hb, (f11 b hb).2⟩
      refine ⟨it1, fun k _ s' => ∃ j H', Inv Y ([] ++ pinsAt fp s7.heap) (wipe σ8 vs1) H' s' ∧ tn1 j s'.heap ∧ (∀ b ∈ fp1, H' b = none) ∧ W1 j k H', rfl, fun B Q E hq => T1.self B 0 _ Q E st11 hq, ⟨m1, hm1, 0, H11, I11.weak (wipe_length _ _) (fun j v e => (wipe_some e).1), st11, fun b hb => (f11 b hb).1, w1⟩, ?_⟩
      rintro k _ s12 ⟨j, H12, I12, st12, n12, w12⟩
      rcases turn1 j k H12 w12 with ⟨stop1, nx1⟩ | ⟨go1, Nx1, hNx1, step1⟩
      · refine thnF (T1.done Y rfl rfl rfl hYc j _ s12 (wipe σ8 vs1) H12 (fun _ _ => False) I12 (stat1 n12) st12 stop1) fun r s13 ⟨hr, I13⟩ => ?_
        subst hr
        exact fin2 I13 (hl8.trans (wipe_length σ8 vs1).symm) hk9 nx1
      refine thnF (T1.item Y rfl rfl rfl hYc j _ s12 (wipe σ8 vs1) H12 (fun _ _ => False) I12 (stat1 n12) st12 go1) fun r s13 ⟨u1, hr, h13⟩ => ?_
      subst hr
      refine thnF h13 fun _ s14 ⟨x1, H14, I14, r14, y14, st14, n14⟩ => ?_
      have I14' := I14.pinned (stat1 n14) (T1.obj _ _ st14)
      refine thnY (pg1.run _ s14 (wipe σ8 vs1) H14 x1 u1 _ I14' r14 (step1 x1 H14 y14)) fun _ s15 ⟨σ15, H15, I15, hw15, q15⟩ => ?_
      refine thnY (pt1.run _ s15 σ15 H15 _ I15 q15) fun b1 s16 ⟨H16, I16, q16⟩ => ?_
      have fin1 : ∀ {s' : Shared} {H' : Hp}, Inv Y (([] ++ pinsAt fp s7.heap) ++ pinsAt fp1 s14.heap) σ15 H' s' → Nx1 H' → ∃ m, m < k ∧ ∃ j H', Inv Y ([] ++ pinsAt fp s7.heap) (wipe σ8 vs1) H' s' ∧ tn1 j s'.heap ∧ (∀ b ∈ fp1, H' b = none) ∧ W1 j m H' := fun {s' H'} I' nx => by
        obtain ⟨m', hm, w'⟩ := hNx1 H' nx
        have pin' : ∀ b ∈ fp1, ∀ o, s14.heap.get? b = some o → s'.heap.get? b = some o ∧ H' b = none := fun b hb o e =>
          let z := I'.pin (b, o) (List.mem_append_right _ (List.mem_append_right _ (mem_pinsAt hb e)))
          ⟨z.1, z.2.1⟩
        refine ⟨m', hm, j + 1, H', I'.unpinned.weak (by rw [← hw15, wipe_length]) (fun j v e => by rw [← hw15] at e; exact (wipe_some e).1), T1.keep _ _ _ st14 fun b hb o e => (pin' b hb o e).1, fun b hb => ?_, w'⟩
        obtain ⟨o, e, _⟩ := T1.obj _ _ st14 b hb
        exact (pin' b hb o e).2
      cases b1 with
      | false =>
        simp only [Bool.false_eq_true, if_false] at q16 ⊢
        exact fin1 I16 q16
      | true =>
        simp only [if_true] at q16 ⊢
        refine thnY (pe.run _ s16 σ15 H16 _ I16 q16) fun z s17 ⟨yv, H17, I17, r17, b17, e17, q17⟩ => ?_
        subst e17
        have r17 : z = .bool b17 := r17
        refine ⟨⟨b17, r17, gst I17, I17.nolimit, I17.bare, fun e s' hs' => ?_⟩, fun gy => ?_⟩
        · rw [if_pos e] at q17
          exact ⟨.bl stop, H17, back I17 ⟨hs'.os, hs'.bare, fun b o q => by rw [hs'.heap]; exact q⟩, rfl, q17⟩
        · rw [r17] at gy
          have gy : b17 = !stop := by injection gy
          rw [if_neg (by rw [gy]; cases stop <;> decide)] at q17
          obtain ⟨m', hm, j', H', J', rest⟩ := fin1 I17 q17
          exact ⟨m', hm, fun s' hs' => ⟨j', H', inv_sl J' hs', by rw [hs'.heap]; exact rest.1, rest.2⟩⟩
  exact fin a gi (m0 * (bd + 1) + bd + 1) s5 ⟨hgen, I5.nolimit, I5.bare, _, hgs, rfl, seg_rg (seg2_start (fun B Q E hq => T.self B 0 _ Q E st5 hq) (step m0 w0))⟩
end
end Gx
end PySem
/-! ### what follows, named -/
namespace PySem
end PySem
namespace SetP
open PySem PySem.Spec PyProof.Rows L2
def rLenP (K : PySem.W.Frag) (P : Program) (w : World) : List V → Hp → VK → Prop := fun vs H Q => ∃ (a : Addr) (bs : List My.Pn), vs = [V.ref a] ∧ H a = some (SetTO P w a (bs.map row2)) ∧ (∀ b ∈ bs, SqT K H b.1 [.int b.2.1, .int b.2.2]) ∧ ((bs.map fun b => b.2).Nodup → Q (.int bs.length) H)
theorem cr_lenP {X : Cx} : CallR X (.builtin "len") (rLenP X.K X.prog X.w) := by
  intro pins s σ H vs us Q I r h
  obtain ⟨a, bs, rfl, ha, hb, q⟩ := h
  have R0 : SetT0 X.prog X.w s.heap a (bs.map row2) := (I.hok a _ ha).1
  obtain ⟨es, ep, t, R⟩ := R0.full fun r hr => by
    obtain ⟨b, hb1, rfl⟩ := List.mem_map.mp hr
    exact I.isT (k := [b.2.1, b.2.2]) (hb b hb1)
  rw [Vals.ref1 r]
  obtain ⟨o, ho, ex, hd⟩ := R.ob
  have hs := R.size
  have few := R.few
  rw [List.length_map] at hs few
  refine call_len_set ho ex hd R.fits (by omega) ?_
  rw [hs]
  have nd : (bs.map fun b => b.2).Nodup := by
    have h1 := R.nd
    rw [List.map_map] at h1
    rw [List.nodup_iff_pairwise_ne, List.pairwise_map] at h1 ⊢
    exact h1.imp fun {b c} ne e => ne (by
      show [b.2.1, b.2.2] = [c.2.1, c.2.2]
      rw [e])
  exact ⟨.int bs.length, H, I.tok _, ⟨_, rfl⟩, q nd⟩
theorem cr_lenPK {X : Cx} {K : PySem.W.Frag} {P : Program} {w : World} (eK : X.K = K) (eP : X.prog = P) (ew : X.w = w) : CallR X (.builtin "len") (rLenP K P w) := by
  subst eK eP ew
  exact cr_lenP
end SetP
namespace My
open PySem L2
/-! ## arcs as rows of points -/
abbrev cds (zs : List Zp) : List Pt := zs.map fun z => z.2
theorem nd_len {α : Type} [DecidableEq α] : ∀ (l D : List α), l.Nodup → (∀ x ∈ l, x ∈ D) → l.length ≤ D.length
  | [], _, _, _ => Nat.zero_le _
  | x :: l, D, nd, h => by
    have nd' := List.nodup_cons.mp nd
    have ih := nd_len l (D.erase x) nd'.2 fun y hy => (List.mem_erase_of_ne (fun e => nd'.1 (by rw [← e]; exact hy))).mpr (h y (List.mem_cons_of_mem _ hy))
    have hx := h x List.mem_cons_self
    have e := List.length_erase_of_mem hx
    have hp := List.length_pos_of_mem hx
    rw [List.length_cons]
    omega
theorem nd_same {α : Type} [DecidableEq α] {l D : List α} (a : l.Nodup) (b : D.Nodup) (h : ∀ x, x ∈ l ↔ x ∈ D) : l.length = D.length :=
  Nat.le_antisymm (nd_len l D a fun x => (h x).mp) (nd_len D l b fun x => (h x).mpr)
/-! ## triangles -/
end My
namespace My
open PySem PySem.Spec PyProof.Rows L2
theorem any_pts (p : Pt) : ∀ zs : List Zp, ((ptsD zs).any fun y => PyData.eqv y (pD p.1 p.2)) = decide (p ∈ cds zs)
  | [] => rfl
  | z :: zs => by
    show (PyData.eqv (pD z.2.1 z.2.2) (pD p.1 p.2) || (ptsD zs).any fun y => PyData.eqv y (pD p.1 p.2)) = _
    rw [any_pts p zs, eqvP, ← Bool.decide_or]
    refine decide_eq_decide.mpr ?_
    show _ ↔ p ∈ z.2 :: cds zs
    rw [List.mem_cons]
    exact or_congr_left ⟨fun e => pt_eq e.1.symm e.2.symm, fun e => by rw [e]; exact ⟨rfl, rfl⟩⟩
/-- pairs of points at addresses -/
def PrC (K : PySem.W.Frag) (H : Hp) (g : Addr × Pt × Pt) : Prop := ∃ a b, SqT K H g.1 [.ref a, .ref b] ∧ SqT K H a [.int g.2.1.1, .int g.2.1.2] ∧ SqT K H b [.int g.2.2.1, .int g.2.2.2]
theorem PrC.same {K : PySem.W.Frag} {H H' : Hp} {g : Addr × Pt × Pt} (e : Same H H') (h : PrC K H g) : PrC K H' g := by
  obtain ⟨a, b, h1, h2, h3⟩ := h
  exact ⟨a, b, tSame e h1, tSame e h2, tSame e h3⟩
def prD (e : Pt × Pt) : PyData := .tuple [pD e.1.1 e.1.2, pD e.2.1 e.2.2]
theorem PrC.dp {K : PySem.W.Frag} {H : Hp} {g : Addr × Pt × Pt} (h : PrC K H g) : Dp K H (.ref g.1) (prD g.2) := by
  obtain ⟨a, b, h1, h2, h3⟩ := h
  exact .tup h1 (.cons (dP h2) (.cons (dP h3) .nil))
theorem min_room {A : Around} {n m : Nat} (h : m ≤ 8) (hu : A.units + 65 < cLine) : A.units + 1 + min n m < cLine := by
  have := Nat.min_le_right n m
  omega
section
variable {X : Cx}
def AtP (K : PySem.W.Frag) (H : Hp) (q : Addr) (zs : List Zp) : Prop := (SqL K H q (refs zs) ∨ SqT K H q (refs zs)) ∧ Pts K H zs
theorem in_pts {pins : List (Addr × Obj)} {s : Shared} {σ : L2.St} {H : Hp} {a q : Addr} {p : Pt} {zs : List Zp} {v u : Value} {E : Value → Shared → Prop} {Q : Value → Shared → Prop} (hu : X.A.units + 65 < cLine) (I : Inv X pins σ H s) (rx : RelV (.ref a) v) (ry : RelV (.ref q) u) (h : AtP X.K H q zs) (hp : SqT X.K H a [.int p.1, .int p.2]) (neg : Bool)
    (k : Q (.bool (if neg then !decide (p ∈ cds zs) else decide (p ∈ cds zs))) s) : wpAny (model X.prog X.w) X.A (compareOp (if neg then .NotIn else .In) v u) Q E s := by
  obtain ⟨as, r1⟩ := Dp.reads I _ (.ref a) v (dP hp) rx
  have hd := pD_depth p.1 p.2
  rcases h with ⟨h | h, hz⟩
  · obtain ⟨bs, r2⟩ := Dp.reads I (.list (ptsD zs)) (.ref q) u (.lst h (dp_pts hz)) ry
    cases neg with
    | false => exact SeqAt.in_list_reads r2 r1 (ptsD_lay zs) (pD_lay _ _) (min_room hd hu) (by rw [any_pts]; exact k)
    | true => exact SeqAt.notIn_list_reads r2 r1 (ptsD_lay zs) (pD_lay _ _) (min_room hd hu) (by rw [any_pts]; exact k)
  · obtain ⟨bs, r2⟩ := Dp.reads I (.tuple (ptsD zs)) (.ref q) u (.tup h (dp_pts hz)) ry
    cases neg with
    | false => exact SeqAt.in_tuple_reads r2 r1 (ptsD_lay zs) (pD_lay _ _) (min_room hd hu) (by rw [any_pts]; exact k)
    | true => exact SeqAt.notIn_tuple_reads r2 r1 (ptsD_lay zs) (pD_lay _ _) (min_room hd hu) (by rw [any_pts]; exact k)
def rInPt (K : PySem.W.Frag) : R2 := fun x y H Q => ∃ (a q : Addr) (p : Pt) (zs : List Zp), x = .ref a ∧ y = .ref q ∧ SqT K H a [.int p.1, .int p.2] ∧ AtP K H q zs ∧ Q (.bl (decide (p ∈ cds zs))) H
theorem op_inPt {K : PySem.W.Frag} (hK : X.K = K) (hu : X.A.units + 65 < cLine) : OpR X (compareOp .In) (rInPt K) := by
  subst hK
  rintro pins s σ H x y v u Q I rx ry ⟨a, q, p, zs, rfl, rfl, hp, h, k⟩
  exact in_pts hu I rx ry h hp false ⟨.bl (decide (p ∈ cds zs)), H, I, rfl, k⟩
end
end My
namespace My
open PySem L2
/-! ## what is_hull asks of three corners and more (k11) -/
structure IsH (S : List Pt) (ws : List Zp) : Prop where
  l3 : 3 ≤ ws.length
  few : ws.length ≤ S.length
  sub : ∀ x ∈ crd ws, x ∈ S
  nd : (crd ws).Nodup
  least : ∀ x ∈ crd ws, lt x (pt ws 0) = false
  left : ∀ i, i < ws.length → 0 < tn (pt ws i) (pt ws (i + 1)) (pt ws (i + 2))
  star : ∀ i, 1 ≤ i → i + 1 < ws.length → 0 < tn (pt ws 0) (pt ws i) (pt ws (i + 1))
  ge : ∀ i, i < ws.length → ∀ q ∈ S, 0 ≤ tn (pt ws i) (pt ws (i + 1)) q
theorem sgn_le {x D y C : Int} (e : x * D = C * y) (hD : 0 < D) (hC : 0 ≤ C) : (0 ≤ y → 0 ≤ x) ∧ (y ≤ 0 → x ≤ 0) := by
  refine ⟨fun h => ?_, fun h => ?_⟩
  · have := Int.mul_nonneg hC h
    rcases Int.lt_or_le x 0 with z | z
    · have := Int.mul_neg_of_neg_of_pos z hD; omega
    · exact z
  · have a := Int.mul_nonneg hC (show 0 ≤ 0 - y by omega)
    have b : C * (0 - y) = 0 - C * y := by grind
    rcases Int.lt_or_le 0 x with z | z
    · have := Int.mul_pos z hD; omega
    · exact z
/-- on the line of an edge, and left of the edges beside it: between its ends -/
theorem between_ {z a t d q : Pt} (h : tn a t q = 0) (h1 : 0 < tn a t d) (h2 : 0 < tn z a t) (g1 : 0 ≤ tn t d q) (g2 : 0 ≤ tn z a q) : box q a t = true := by
  have e1 : (t.1 - q.1) * tn a t d = tn t d q * (t.1 - a.1) := by
    have : (t.1 - q.1) * tn a t d - tn t d q * (t.1 - a.1) = tn a t q * (t.1 - d.1) := by unfold tn turnI; grind
    rw [h, Int.zero_mul] at this; omega
  have e2 : (t.2 - q.2) * tn a t d = tn t d q * (t.2 - a.2) := by
    have : (t.2 - q.2) * tn a t d - tn t d q * (t.2 - a.2) = tn a t q * (t.2 - d.2) := by unfold tn turnI; grind
    rw [h, Int.zero_mul] at this; omega
  have e3 : (q.1 - a.1) * tn z a t = tn z a q * (t.1 - a.1) := by
    have : (q.1 - a.1) * tn z a t - tn z a q * (t.1 - a.1) = tn a t q * (z.1 - a.1) := by unfold tn turnI; grind
    rw [h, Int.zero_mul] at this; omega
  have e4 : (q.2 - a.2) * tn z a t = tn z a q * (t.2 - a.2) := by
    have : (q.2 - a.2) * tn z a t - tn z a q * (t.2 - a.2) = tn a t q * (z.2 - a.2) := by unfold tn turnI; grind
    rw [h, Int.zero_mul] at this; omega
  have s1 := sgn_le e1 h1 g1
  have s2 := sgn_le e2 h1 g1
  have s3 := sgn_le e3 h2 g2
  have s4 := sgn_le e4 h2 g2
  exact box_iff.mpr ⟨h, by omega, by omega⟩
theorem box_d1 {a t q : Pt} (h : box q a t = true) : d1 a q ≤ d1 a t ∧ (d1 a q = d1 a t → q = t) := by
  obtain ⟨_, h1, h2⟩ := box_iff.mp h
  unfold d1
  refine ⟨by omega, fun e => pt_eq (by omega) (by omega)⟩
/-- the least corner is the least point of all -/
theorem least_all {L N P q : Pt} (n : lt L N = true) (p : lt L P = true) (h : 0 < tn P L N) (g1 : 0 ≤ tn P L q) (g2 : 0 ≤ tn L N q) : lt q L = false := by
  refine Bool.eq_false_iff.mpr fun z => ?_
  have n := of_decide_eq_true n
  have p := of_decide_eq_true p
  have z := of_decide_eq_true z
  -- a: from q to L, b: from L to N, c: from L to P
  have e : (tn P L q) * (N.1 - L.1) + (tn L N q) * (P.1 - L.1) + tn P L N * (L.1 - q.1) = 0 := by unfold tn turnI; grind
  have e' : (tn P L q) * (N.2 - L.2) + (tn L N q) * (P.2 - L.2) + tn P L N * (L.2 - q.2) = 0 := by unfold tn turnI; grind
  have a1 : 0 ≤ N.1 - L.1 := by omega
  have a2 : 0 ≤ P.1 - L.1 := by omega
  have a3 : 0 ≤ L.1 - q.1 := by omega
  have b1 := Int.mul_nonneg g1 a1
  have b2 := Int.mul_nonneg g2 a2
  have b3 := Int.mul_nonneg (Int.le_of_lt h) a3
  have c3 : tn P L N * (L.1 - q.1) = 0 := by omega
  have d3 : L.1 - q.1 = 0 := (Int.mul_eq_zero.mp c3).resolve_left (by omega)
  have c1 : (tn P L q) * (N.1 - L.1) = 0 := by omega
  have c2 : (tn L N q) * (P.1 - L.1) = 0 := by omega
  have f3 : 0 < tn P L N * (L.2 - q.2) := Int.mul_pos h (by omega)
  have f1 : 0 ≤ (tn P L q) * (N.2 - L.2) := by
    rcases Int.mul_eq_zero.mp c1 with y | y
    · rw [y, Int.zero_mul]; exact Int.le_refl _
    · exact Int.mul_nonneg g1 (by omega)
  have f2 : 0 ≤ (tn L N q) * (P.2 - L.2) := by
    rcases Int.mul_eq_zero.mp c2 with y | y
    · rw [y, Int.zero_mul]; exact Int.le_refl _
    · exact Int.mul_nonneg g2 (by omega)
  omega
theorem IsH.of {S : List Pt} {ws : List Zp} (W : Wrap S (crd ws)) (l3 : 3 ≤ ws.length) : IsH S ws := by
  have C := cxh_of W l3
  have ln : (crd ws).length = ws.length := List.length_map _
  obtain ⟨r, L, e, least, nL⟩ := W.least
  have p0 : pt ws 0 = L := by
    have : (crd ws)[0]? = some L := by rw [e]; rfl
    rw [List.getElem?_map] at this
    obtain ⟨z, hz, ez⟩ := Option.map_eq_some_iff.mp this
    rw [pt_at hz]; exact ez
  refine ⟨l3, by rw [← ln]; exact W.few, W.sub, ?_, fun x hx => by rw [p0]; exact least x (W.sub x hx), fun i hi => C.strict hi (C.dist (by omega) (by omega) (by omega)).symm (C.dist (by omega) (by omega) (by omega)).symm, fun i h1 h2 => ?_, C.ge⟩
  · refine List.pairwise_iff_getElem.mpr fun i j hi hj hij => ?_
    have g : ∀ k (hk : k < (crd ws).length), (crd ws)[k] = pt ws k := fun k hk => by
      have h1 : (crd ws)[k]? = some (crd ws)[k] := List.getElem?_eq_getElem hk
      rw [List.getElem?_map] at h1
      obtain ⟨z, hz, ez⟩ := Option.map_eq_some_iff.mp h1
      rw [← ez, pt_at hz]
    rw [g i hi, g j hj]
    exact C.nd i j hij (by omega)
  · rw [show tn (pt ws 0) (pt ws i) (pt ws (i + 1)) = tn (pt ws i) (pt ws (i + 1)) (pt ws 0) from by unfold tn turnI; grind]
    exact C.strict (by omega) (C.dist (by omega) (by omega) (by omega)) (C.dist (by omega) (by omega) (by omega))
theorem crd_pt {ws : List Zp} {k : Nat} (hk : k < ws.length) : (crd ws)[k]? = some (pt ws k) := by
  rw [List.getElem?_map, List.getElem?_eq_getElem hk, pt_at (List.getElem?_eq_getElem hk)]
  rfl
theorem IsH.wrap {S : List Pt} {ws : List Zp} (h : IsH S ws) : Wrap S (crd ws) := by
  have ln : (crd ws).length = ws.length := List.length_map _
  have l3 := h.l3
  have pm : ∀ k, pt ws (ws.length + k) = pt ws k := fun k => by rw [Nat.add_comm]; exact pt_add k
  have pm0 : pt ws ws.length = pt ws 0 := pm 0
  have mem : ∀ k, k < ws.length → pt ws k ∈ crd ws := fun k hk => List.mem_of_getElem? (crd_pt hk)
  have nd : ∀ i j, i < j → j < ws.length → pt ws i ≠ pt ws j := fun i j hij hj e => by
    have h1 := crd_pt (ws := ws) (k := i) (by omega)
    have h2 := crd_pt hj
    obtain ⟨l1, e1⟩ := List.getElem?_eq_some_iff.mp h1
    obtain ⟨l2, e2⟩ := List.getElem?_eq_some_iff.mp h2
    exact List.pairwise_iff_getElem.mp h.nd i j l1 l2 hij (e1.trans (e.trans e2.symm))
  have first : ∀ k, 0 < k → k < ws.length → lt (pt ws 0) (pt ws k) = true := fun k k0 hk => by
    have a := h.least _ (mem k hk)
    have b := nd 0 k k0 hk
    cases c : lt (pt ws 0) (pt ws k) with
    | true => rfl
    | false => exact absurd (lt_tri c a) b
  -- the turn and the left side at a corner, with what is ahead of it
  have prev : ∀ j, j < ws.length → ∃ z, 0 < tn z (pt ws j) (pt ws (j + 1)) ∧ ∀ q ∈ S, 0 ≤ tn z (pt ws j) q := fun j hj => by
    by_cases c : j = 0
    · subst c
      have a := h.left (ws.length - 1) (by omega)
      have b := h.ge (ws.length - 1) (by omega)
      rw [show ws.length - 1 + 1 = ws.length by omega, show ws.length - 1 + 2 = ws.length + 1 by omega, pm0, pm 1] at a
      rw [show ws.length - 1 + 1 = ws.length by omega, pm0] at b
      exact ⟨_, a, b⟩
    · have a := h.left (j - 1) (by omega)
      have b := h.ge (j - 1) (by omega)
      rw [show j - 1 + 1 = j by omega, show j - 1 + 2 = j + 1 by omega] at a
      rw [show j - 1 + 1 = j by omega] at b
      exact ⟨_, a, b⟩
  have ahead : ∀ j, j < ws.length → ∀ q ∈ S, 0 ≤ tn (pt ws (j + 1)) (pt ws (j + 2)) q := fun j hj q hq => by
    by_cases c : j + 1 < ws.length
    · exact h.ge (j + 1) c q hq
    · have e : j + 1 = ws.length := by omega
      have b := h.ge 0 (by omega) q hq
      rw [show j + 2 = ws.length + 1 by omega, e, pm0, pm 1]
      exact b
  refine ⟨h.sub, by rw [ln]; exact h.few, ?_, fun o => by omega, fun _ j a t ha ht => ?_⟩
  · obtain ⟨L, r, e⟩ : ∃ L r, crd ws = L :: r := by
      cases c : crd ws with
      | nil => rw [c] at ln; simp at ln; omega
      | cons L r => exact ⟨L, r, rfl⟩
    have p0 : pt ws 0 = L := by
      have a := crd_pt (ws := ws) (k := 0) (by omega)
      rw [e] at a
      exact (Option.some.inj a).symm
    refine ⟨r, L, e, fun q hq => ?_, ?_⟩
    · rw [← p0]
      have a := h.left (ws.length - 1) (by omega)
      have b := h.ge (ws.length - 1) (by omega) q hq
      rw [show ws.length - 1 + 1 = ws.length by omega, show ws.length - 1 + 2 = ws.length + 1 by omega, pm0, pm 1] at a
      rw [show ws.length - 1 + 1 = ws.length by omega, pm0] at b
      exact least_all (first 1 (by omega) (by omega)) (first (ws.length - 1) (by omega) (by omega)) a b (h.ge 0 (by omega) q hq)
    · have := h.nd
      rw [e] at this
      exact (List.nodup_cons.mp this).1
  · have hj : j < ws.length := by have := (List.getElem?_eq_some_iff.mp ha).1; omega
    have ea : a = pt ws j := by rw [crd_pt hj] at ha; exact (Option.some.inj ha).symm
    have et : t = pt ws (j + 1) := by
      by_cases c : j + 1 < ws.length
      · rw [List.getElem?_append_left (by omega), crd_pt c] at ht
        exact (Option.some.inj ht).symm
      · have e : j + 1 = ws.length := by omega
        rw [List.getElem?_append_right (by omega), e, ln, Nat.sub_self, List.getElem?_take, if_pos (by omega), crd_pt (by omega)] at ht
        rw [e, pm0]
        exact (Option.some.inj ht).symm
    subst ea et
    have lf := h.left j hj
    obtain ⟨z, z1, z2⟩ := prev j hj
    refine ⟨?_, fun e => ?_, fun q hq => ⟨h.ge j hj q hq, fun z0 => box_d1 (between_ z0 lf z1 (ahead j hj q hq) (z2 q hq))⟩⟩
    · by_cases c : j + 1 < ws.length
      · exact h.sub _ (mem _ c)
      · rw [show j + 1 = ws.length by omega, pm0]
        exact h.sub _ (mem 0 (by omega))
    · rw [e] at lf
      have : tn (pt ws j) (pt ws j) (pt ws (j + 2)) = 0 := by unfold tn turnI; grind
      omega
theorem isH_iff {S : List Pt} {ws : List Zp} (l3 : 3 ≤ ws.length) : IsH S ws ↔ Wrap S (crd ws) := ⟨fun h => h.wrap, fun W => .of W l3⟩
/-! ### one corner, two corners -/
theorem wrap_one_iff {S : List Pt} {L : Pt} : Wrap S [L] ↔ L ∈ S ∧ ∀ q ∈ S, q = L := by
  refine ⟨fun W => ⟨W.sub L (by simp), fun q hq => ?_⟩, fun ⟨h, a⟩ => ?_⟩
  · have := W.one rfl q hq
    exact List.head_eq_of_cons_eq this
  · refine ⟨fun x hx => by rw [List.mem_singleton.mp hx]; exact h, ?_, ⟨[], L, rfl, fun q hq => by rw [a q hq]; exact lt_irr _, by simp⟩, fun _ q hq => by rw [a q hq], fun o => by simp at o⟩
    cases S with
    | nil => cases h
    | cons x r => exact Nat.succ_le_succ (Nat.zero_le _)
theorem wrap_two_iff {S : List Pt} {a b : Pt} (ab : lt a b = true) : Wrap S [a, b] ↔ (2 ≤ S.length ∧ a ∈ S ∧ b ∈ S) ∧ ∀ q ∈ S, tn a b q = 0 ∧ lt q a = false ∧ lt b q = false := by
  have ne : a ≠ b := fun e => by rw [e, lt_irr] at ab; cases ab
  constructor
  · intro W
    refine ⟨⟨W.few, W.sub a (by simp), W.sub b (by simp)⟩, fun q hq => ?_⟩
    have n1 := (W.next (Nat.le_refl _) 0 a b rfl rfl).all q hq
    have n2 := (W.next (Nat.le_refl _) 1 b a rfl rfl).all q hq
    have s : tn b a q = 0 - tn a b q := by unfold tn turnI; grind
    have z : tn a b q = 0 := by omega
    have bx := W.box_ (Nat.le_refl _) (j := 0) (a := a) (t := b) rfl rfl hq z
    obtain ⟨_, b1, b2⟩ := box_iff.mp bx
    obtain ⟨r, L, e, least, _⟩ := W.least
    cases e
    refine ⟨z, least q hq, ?_⟩
    rw [lt_no]
    have ab := of_decide_eq_true ab
    have e : (b.1 - a.1) * (q.2 - a.2) = (b.2 - a.2) * (q.1 - a.1) := by unfold tn turnI at z; omega
    rcases Int.lt_or_le a.1 b.1 with c | c
    · have : q.1 < b.1 ∨ q.1 = b.1 := by omega
      rcases this with y | y
      · omega
      · rw [y, Int.mul_comm (b.2 - a.2)] at e
        have := Int.eq_of_mul_eq_mul_left (show b.1 - a.1 ≠ 0 by omega) e
        omega
    · omega
  · rintro ⟨⟨l2, ha, hb⟩, all⟩
    have bx : ∀ q ∈ S, box q a b = true := fun q hq => by
      obtain ⟨z, h1, h2⟩ := all q hq
      rw [lt_no] at h1 h2
      have ab := of_decide_eq_true ab
      have e : (b.1 - a.1) * (q.2 - a.2) = (b.2 - a.2) * (q.1 - a.1) := by unfold tn turnI at z; omega
      refine box_iff.mpr ⟨z, by omega, ?_⟩
      rcases Int.lt_or_le a.1 b.1 with c | c
      · -- the height goes along
        have x0 : 0 ≤ q.1 - a.1 := by omega
        have x1 : 0 ≤ b.1 - q.1 := by omega
        have e2 : (b.1 - a.1) * (b.2 - q.2) = (b.2 - a.2) * (b.1 - q.1) := by grind
        have s1 := sgn_le (x := q.2 - a.2) (D := b.1 - a.1) (y := b.2 - a.2) (C := q.1 - a.1) (by rw [Int.mul_comm, e, Int.mul_comm]) (by omega) x0
        have s2 := sgn_le (x := b.2 - q.2) (D := b.1 - a.1) (y := b.2 - a.2) (C := b.1 - q.1) (by rw [Int.mul_comm, e2, Int.mul_comm]) (by omega) x1
        omega
      · omega
    refine ⟨fun x hx => by simp only [List.mem_cons, List.not_mem_nil, or_false] at hx; rcases hx with rfl | rfl <;> assumption, l2, ⟨[b], a, rfl, fun q hq => (all q hq).2.1, by simp; exact ne⟩, fun o => by simp at o, fun _ j x t hx ht => ?_⟩
    match j, hx, ht with
    | 0, hx, ht =>
      cases hx; cases ht
      exact ⟨hb, ne.symm, fun q hq => ⟨Int.le_of_eq (all q hq).1.symm, fun _ => box_d1 (bx q hq)⟩⟩
    | 1, hx, ht =>
      cases hx; cases ht
      refine ⟨ha, ne, fun q hq => ⟨?_, fun _ => box_d1 (by rw [box_swap]; exact bx q hq)⟩⟩
      have s : tn b a q = 0 - tn a b q := by unfold tn turnI; grind
      rw [s, (all q hq).1]; decide
/-- what are_corners asks -/
structure CornP (S : List Pt) (ws : List Zp) : Prop where
  l1 : 1 ≤ ws.length
  few : ws.length ≤ S.length
  sub : ∀ x ∈ crd ws, x ∈ S
  nd : (crd ws).Nodup
  least : ∀ x ∈ crd ws, lt x (pt ws 0) = false
/-- as many as there are different ones: none twice -/
theorem nd_back : ∀ (l B : List Pt), B.Nodup → (∀ x ∈ B, x ∈ l) → l.length ≤ B.length → l.Nodup
  | [], _, _, _, _ => List.nodup_nil
  | x :: t, B, nd, sub, le => by
    have nx : x ∉ t := fun h => by
      have := nodup_len nd (m := t) fun y hy => (List.mem_cons.mp (sub y hy)).elim (fun e => e ▸ h) id
      simp only [List.length_cons] at le
      omega
    refine List.nodup_cons.mpr ⟨nx, nd_back t (B.erase x) (nd.erase x) (fun y hy => ?_) ?_⟩
    · have hm := (nd.mem_erase_iff).mp hy
      exact (List.mem_cons.mp (sub y hm.2)).elim (fun e => absurd e hm.1) id
    · have := List.length_erase (a := x) (l := B)
      simp only [List.length_cons] at le
      split at this <;> omega
/-- what wraps has corners as is_hull asks first -/
theorem corn_of {S : List Pt} {ws : List Zp} (W : Wrap S (crd ws)) : CornP S ws := by
  obtain ⟨r, L, e, least, nL⟩ := W.least
  have ln : (crd ws).length = ws.length := List.length_map _
  have p0 : pt ws 0 = L := by
    have : (crd ws)[0]? = some L := by rw [e]; rfl
    rw [List.getElem?_map] at this
    obtain ⟨z, hz, ez⟩ := Option.map_eq_some_iff.mp this
    rw [pt_at hz]; exact ez
  have l1 : 1 ≤ ws.length := by rw [← ln, e]; simp
  refine ⟨l1, by rw [← ln]; exact W.few, W.sub, ?_, fun x hx => by rw [p0]; exact least x (W.sub x hx)⟩
  by_cases l3 : 3 ≤ ws.length
  · exact (IsH.of W l3).nd
  · rw [e] at ln ⊢
    refine List.nodup_cons.mpr ⟨nL, ?_⟩
    match r, ln with
    | [], _ => exact List.nodup_nil
    | [x], _ => simp
    | _ :: _ :: _, h => simp only [List.length_cons] at h; omega
end My
namespace My
open PySem PySem.Spec PyProof.Rows L2 RZ
/-! ## zip of three tuples, for a target of three names (k11) -/
def ItzT3 (K : PySem.W.Frag) (a b c : Addr) : It :=
  ⟨fun i H => ∃ xs ys zs : List V, SqT K H a xs ∧ SqT K H b ys ∧ SqT K H c zs ∧ i < min (min xs.length ys.length) zs.length,
    fun i H v H' => ∃ T x y z, v = .ref T ∧ H T = none ∧ H' = upd H T (.tup [x, y, z]) ∧ (∀ xs, SqT K H a xs → xs[i]? = some x) ∧ (∀ ys, SqT K H b ys → ys[i]? = some y) ∧ ∀ zs, SqT K H c zs → zs[i]? = some z,
    fun i H => ∃ xs ys zs : List V, SqT K H a xs ∧ SqT K H b ys ∧ SqT K H c zs ∧ i = min (min xs.length ys.length) zs.length⟩
theorem turn_zipT3 {P : Program} {w : World} {K : PySem.W.Frag} {elts : List Expr} {kk : Nat} {tpos : Pos} {a b c z TI TO i1 i2 i3 : Addr} (S : ZipSep3 z TI TO i1 i2 i3 [i1, a] [i2, b] [i3, c]) (n1 : a ≠ i1) (n2 : b ≠ i2) (n3 : c ≠ i3) :
    Turn P w K (.Tuple elts kk tpos) (ItzT3 K a b c) [z, TI, TO, i1, i2, i3] z (fun i h => IsZip h z TI TO .none ∧ IsTupOf3 h TI (.ref i1) (.ref i2) (.ref i3) ∧ (∃ x y u, IsTupOf3 h TO x y u) ∧ h.IsTupleIter i1 a i ∧ h.IsTupleIter i2 b i ∧ h.IsTupleIter i3 c i) where
  mem := by simp
  obj := fun i h st d hd => by
    obtain ⟨hz, hTI, ⟨x, y, u, hTO⟩, ⟨o1, e1, _, d1⟩, ⟨o2, e2, _, d2⟩, ⟨o3, e3, _, d3⟩⟩ := st
    have e' : d = z ∨ d = TI ∨ d = TO ∨ d = i1 ∨ d = i2 ∨ d = i3 := by simpa using hd
    rcases e' with q | q | q | q | q | q
    · rw [q]; exact ⟨_, hz, fun v q => nomatch q⟩
    · rw [q]; exact ⟨_, hTI, fun v q => nomatch q⟩
    · rw [q]; exact ⟨_, hTO, fun v q => nomatch q⟩
    · rw [q]; exact ⟨o1, e1, fun v q => by rw [d1] at q; cases q⟩
    · rw [q]; exact ⟨o2, e2, fun v q => by rw [d2] at q; cases q⟩
    · rw [q]; exact ⟨o3, e3, fun v q => by rw [d3] at q; cases q⟩
  keep := fun i h h' st k => by
    obtain ⟨hz, hTI, ⟨x, y, u, hTO⟩, h1, h2, h3⟩ := st
    exact ⟨k z (by simp) _ hz, k TI (by simp) _ hTI, ⟨x, y, u, k TO (by simp) _ hTO⟩, h1.at fun o q => k i1 (by simp) o q, h2.at fun o q => k i2 (by simp) o q, h3.at fun o q => k i3 (by simp) o q⟩
  item := by
    intro X hP hw hK hc i pins s σ H E I hf st hg
    subst hP hw hK
    obtain ⟨hz, hTI, hTO, h1, h2, h3⟩ := st
    obtain ⟨xs, ys, zs, qa, qb, qc, hi⟩ := hg
    obtain ⟨ia, ra, pa, _⟩ := I.tuple qa
    obtain ⟨ib, rb, pb, _⟩ := I.tuple qb
    obtain ⟨ic, rc, pc, _⟩ := I.tuple qc
    have la := ra.length
    have lb := rb.length
    have lc := rc.length
    have hh : X.A.in1.handled = none := I.ok.hd hc
    have W := GoesN.zip3 (A := X.A) (elts := elts) (x1 := kk) (pos := tpos) S (Draws.tuple (prog := X.prog) (w := X.w) (A := X.A.in1) hh i1 a n1 ia.toArray) (Draws.tuple hh i2 b n2 ib.toArray) (Draws.tuple hh i3 c n3 ic.toArray)
    refine W.goes i s (fun u s2 => ∃ x H', Inv X pins σ H' s2 ∧ RelV x u ∧ (ItzT3 X.K a b c).yld i H x H' ∧ _ ∧ ∀ d ∈ [z, TI, TO, i1, i2, i3], H' d = none) E (by simp only [List.size_toArray]; omega) ⟨hz, hTI, hTO, ⟨h1, pa⟩, ⟨h2, pb⟩, ⟨h3, pc⟩⟩ fun v h' tk hY st' hk htk => ?_
    obtain ⟨T, u1, u2, u3, rfl, hT, g1, g2, g3, hT3⟩ := hY
    obtain ⟨x1, hx1, r1⟩ : ∃ x, xs[i]? = some x ∧ RelV x u1 := by
      obtain ⟨x, hx⟩ : ∃ x, xs[i]? = some x := ⟨_, List.getElem?_eq_getElem (by omega)⟩
      obtain ⟨u, hu, ru⟩ := ra.get hx
      have : u = u1 := by simpa [hu] using g1
      exact ⟨x, hx, this ▸ ru⟩
    obtain ⟨x2, hx2, r2⟩ : ∃ x, ys[i]? = some x ∧ RelV x u2 := by
      obtain ⟨x, hx⟩ : ∃ x, ys[i]? = some x := ⟨_, List.getElem?_eq_getElem (by omega)⟩
      obtain ⟨u, hu, ru⟩ := rb.get hx
      have : u = u2 := by simpa [hu] using g2
      exact ⟨x, hx, this ▸ ru⟩
    obtain ⟨x3, hx3, r3⟩ : ∃ x, zs[i]? = some x ∧ RelV x u3 := by
      obtain ⟨x, hx⟩ : ∃ x, zs[i]? = some x := ⟨_, List.getElem?_eq_getElem (by omega)⟩
      obtain ⟨u, hu, ru⟩ := rc.get hx
      have : u = u3 := by simpa [hu] using g3
      exact ⟨x, hx, this ▸ ru⟩
    have new : ObjOk X.prog X.w (upd H T (.tup [x1, x2, x3])) h' T (.tup [x1, x2, x3]) := ⟨by show 3 ≤ sizeLine; decide, [u1, u2, u3], .cons r1 (.cons r2 (.cons r3 .nil)), hT3⟩
    have I1 : Inv X pins σ (upd H T (.tup [x1, x2, x3])) { s with heap := h', toks := tk } :=
      I.turnedNew (t' := tk) (ch := [z, TI, TO, i1, i2, i3]) (fun d o hb q => hk d o (fun y => hb (by simp only [List.mem_cons, List.not_mem_nil, or_false] at y ⊢; rcases y with y | y | y | y | y <;> simp [y])) q) hf hT new
    refine ⟨.ref T, _, I1, rfl, ⟨T, x1, x2, x3, rfl, I.hok.fresh hT, rfl, fun l hl => by rw [I.tuple_inj hl qa]; exact hx1, fun l hl => by rw [I.tuple_inj hl qb]; exact hx2, fun l hl => by rw [I.tuple_inj hl qc]; exact hx3⟩, ⟨st'.1, st'.2.1, st'.2.2.1, st'.2.2.2.1.1, st'.2.2.2.2.1.1, st'.2.2.2.2.2.1⟩, fun d hd => ?_⟩
    have hlt : d < s.heap.objs.size := by
      have e' : d = z ∨ d = TI ∨ d = TO ∨ d = i1 ∨ d = i2 ∨ d = i3 := by simpa using hd
      obtain ⟨_, _, _, hTO'⟩ := hTO
      rcases e' with q | q | q | q | q | q
      · rw [q]; exact Heap.lt_size hz
      · rw [q]; exact Heap.lt_size hTI
      · rw [q]; exact Heap.lt_size hTO'
      · rw [q]; obtain ⟨_, e1, _⟩ := h1; exact Heap.lt_size e1
      · rw [q]; obtain ⟨_, e2, _⟩ := h2; exact Heap.lt_size e2
      · rw [q]; obtain ⟨_, e3, _⟩ := h3; exact Heap.lt_size e3
    rw [upd_ne (fun e => absurd hT (by rw [← e]; exact Nat.not_le.mpr hlt))]
    exact (hf d hd).1
  done := by
    intro X hP hw hK hc i pins s σ H E I hf st hg
    subst hP hw hK
    obtain ⟨hz, hTI, hTO, h1, h2, h3⟩ := st
    obtain ⟨xs, ys, zs, qa, qb, qc, hi⟩ := hg
    obtain ⟨ia, ra, pa, _⟩ := I.tuple qa
    obtain ⟨ib, rb, pb, _⟩ := I.tuple qb
    obtain ⟨ic, rc, pc, _⟩ := I.tuple qc
    have la := ra.length
    have lb := rb.length
    have lc := rc.length
    have hh : X.A.in1.handled = none := I.ok.hd hc
    have W := GoesN.zip3 (A := X.A) (elts := elts) (x1 := kk) (pos := tpos) S (Draws.tuple (prog := X.prog) (w := X.w) (A := X.A.in1) hh i1 a n1 ia.toArray) (Draws.tuple hh i2 b n2 ib.toArray) (Draws.tuple hh i3 c n3 ic.toArray)
    have ei : i = min (min ia.toArray.size ib.toArray.size) ic.toArray.size := by simp only [List.size_toArray]; omega
    subst ei
    exact W.stops s (fun s1 => Inv X pins σ H s1) E ⟨hz, hTI, hTO, ⟨h1, pa⟩, ⟨h2, pb⟩, ⟨h3, pc⟩⟩ fun h' tk hk htk => I.turnedL (t' := tk) (ch := [z, TI, TO, i1, i2, i3]) (fun d o hb q => hk d o (fun y => hb (by simp only [List.mem_cons, List.not_mem_nil, or_false] at y ⊢; rcases y with y | y | y | y | y <;> simp [y])) q) hf
  self := fun A i s Q E st h => wpAny_pyIter_zip st.1 h
theorem sep3 (n a b c : Nat) (ha : a < n) (hb : b < n) (hc : c < n) : ZipSep3 (n + 5) (n + 3) (n + 4) n (n + 1) (n + 2) [n, a] [n + 1, b] [n + 2, c] := by
  have no : ∀ {x y z : Nat}, x ≠ y → x ≠ z → (x : Addr) ∉ ([y, z] : List Addr) := fun h1 h2 h => by
    rcases List.mem_cons.mp h with h | h
    · exact h1 h
    · exact h2 (List.mem_singleton.mp h)
  constructor
  all_goals first
    | exact List.mem_cons_self
    | exact no (by omega) (by omega)
    | exact (show ∀ {x y : Nat}, (x < y ∨ y < x) → x ≠ y from fun h => by omega) (by omega)
def iZip3T (K : PySem.W.Frag) (ta : TA) : TI := fun σ H R => ta σ H fun vs H1 => ∃ a b c, vs = [.ref a, .ref b, .ref c] ∧ (∃ xs ys zs, SqT K H1 a xs ∧ SqT K H1 b ys ∧ SqT K H1 c zs) ∧ R (ItzT3 K a b c) H1
theorem pi_zip3 {X : Cx} {e e2 e3 : Expr} {ta : TA} {p pos tpos : Pos} {elts : List Expr} {kk : Nat} (hg : Gl X "zip") (hm : X.mg "zip" = none) (ha : PA X [e, e2, e3] ta)
    (hs : starEach [e, e2, e3] X.env = (false, eval e X.env) :: starEach [e2, e3] X.env := by rfl) (hpl : (backTo pos (starEach [e2, e3] X.env)).any (·.1) = false := by rfl) :
    PI X (.Tuple elts kk tpos) (.Call (.Name "zip" p) [e, e2, e3] [] pos) (iZip3T X.K ta) := by
  refine ⟨fun pins s σ H R I h => ?_⟩
  refine Call_ (ld_blt I hg hm PyProof.Rows.boot_zip (PyProof.Rows.callWith_type1 (thn (ha.run pos pins s σ H _ I h) fun us s1 ⟨vs, H1, I1, r1, q1⟩ => ?_) hs hpl))
  obtain ⟨a, b, c, ex, ⟨xs, ys, zs, qa, qb, qc⟩, q⟩ := q1
  subst ex
  cases r1 with
  | cons r rr =>
    cases rr with
    | cons r' rr =>
      cases rr with
      | cons r'' rr =>
        cases rr
        cases r
        cases r'
        cases r''
        obtain ⟨ia, ra, pa, _⟩ := I1.tuple qa
        obtain ⟨ib, rb, pb, _⟩ := I1.tuple qb
        obtain ⟨ic, rc, pc, _⟩ := I1.tuple qc
        have la : a < s1.heap.objs.size := by obtain ⟨o, h, _⟩ := id pa; exact Heap.lt_size h
        have lb : b < s1.heap.objs.size := by obtain ⟨o, h, _⟩ := id pb; exact Heap.lt_size h
        have lc : c < s1.heap.objs.size := by obtain ⟨o, h, _⟩ := id pc; exact Heap.lt_size h
        have fresh6 : ∀ d, d ∈ [s1.heap.objs.size + 5, s1.heap.objs.size + 3, s1.heap.objs.size + 4, s1.heap.objs.size, s1.heap.objs.size + 1, s1.heap.objs.size + 2] → FpOk X pins H1 d := fun d hd => by
          have hle : s1.heap.objs.size ≤ d := by
            simp only [List.mem_cons, List.not_mem_nil, or_false] at hd
            rcases hd with y | y | y | y | y | y
            · rw [y]; exact Nat.le_add_right _ _
            · rw [y]; exact Nat.le_add_right _ _
            · rw [y]; exact Nat.le_add_right _ _
            · rw [y]; exact Nat.le_refl _
            · rw [y]; exact Nat.le_add_right _ _
            · rw [y]; exact Nat.le_add_right _ _
          exact I1.fpOk hle (I1.hok.fresh hle)
        refine zip_begins3 (begins_tuple a ia.toArray) (begins_tuple b ib.toArray) (begins_tuple c ic.toArray) pa pb pc fun h' hz hTI hTO g1 g2 g3 hsz hk => wpAny_pyIter_zip hz ?_
        have I2 : Inv X pins σ H1 { s1 with heap := h' } := I1.kept (t' := s1.toks) hk
        exact ⟨s1.heap.objs.size + 5, [s1.heap.objs.size + 5, s1.heap.objs.size + 3, s1.heap.objs.size + 4, s1.heap.objs.size, s1.heap.objs.size + 1, s1.heap.objs.size + 2], _, _, H1, rfl, I2, turn_zipT3 (sep3 _ a b c la lb lc) (Nat.ne_of_lt la) (Nat.ne_of_lt (Nat.lt_succ_of_lt lb)) (Nat.ne_of_lt (Nat.lt_succ_of_lt (Nat.lt_succ_of_lt lc))), ⟨hz, hTI, ⟨_, _, _, hTO⟩, ⟨_, g1, rfl, rfl⟩, ⟨_, g2, rfl, rfl⟩, ⟨_, g3, rfl, rfl⟩⟩, fresh6, q⟩
/-- what a turn hands out -/
def YTri (xs ys zs : Nat → Option V) : Nat → Hp → V → Hp → Prop := fun i H v H' => ∃ T x y z, v = .ref T ∧ H T = none ∧ H' = upd H T (.tup [x, y, z]) ∧ xs i = some x ∧ ys i = some y ∧ zs i = some z
theorem walk_zip3 {K : PySem.W.Frag} {a b c : Addr} {xs ys zs : List V} {n : Nat} (hn : n = min (min xs.length ys.length) zs.length) : Walk (ItzT3 K a b c) n (fun H => SqT K H a xs ∧ SqT K H b ys ∧ SqT K H c zs) (YTri (fun i => xs[i]?) (fun i => ys[i]?) (fun i => zs[i]?)) :=
  ⟨fun i H hi g => ⟨xs, ys, zs, g.1, g.2.1, g.2.2, by omega⟩, fun H g => ⟨xs, ys, zs, g.1, g.2.1, g.2.2, hn⟩, fun i H v H' _ g y => by
    obtain ⟨T, x, u, z, e1, e2, e3, e4, e5, e6⟩ := y
    exact ⟨T, x, u, z, e1, e2, e3, e4 _ g.1, e5 _ g.2.1, e6 _ g.2.2⟩⟩
end My
namespace PySem
namespace Gx
open L2
/-- as step_gen, for `if not all(..)` -/
theorem step_ngen {stop : Bool} {t u v : TS} {D : Ends} {wi : TI} {g : TG} {tt : TT} {te : TE} {vs : List Nat} {P : Addr} {σ : L2.St} {H : Hp}
    (h : ∀ Q' : VK, (∀ x H1, Q' x H1 = ∃ c, x = .bl c ∧ if (!c) = true then t { D with nx := v D } σ H1 else u { D with nx := v D } σ H1) → tGen stop wi g tt te vs P σ H Q') : tSeq (tIfS (tNot (tB (tGen stop wi g tt te vs P))) t u) v D σ H := h _ fun _ _ => rfl
end Gx
end PySem
namespace SrtT
open PySem PySem.Calls PyProof.Rows L2
/-! ## sorted(t), t a tuple of points -/
section
variable {prog : Program} {w : World} {A : Around} {E : Value → Shared → Prop} {s : Shared}
abbrev bareL : Obj := seqObj "list" #[] 0
theorem all_of_tuple {l : Addr} {vs : List Value} {Q : List Value → Shared → Prop} (isT : s.heap.IsTuple l vs.toArray) (few : vs.length ≤ sizeLine)
    (next : Q vs { s with heap := (s.heap.push bareL).update s.heap.objs.size (Obj.mapSeq (· ++ vs.toArray)) }) :
    wpAny (model prog w) A (collect (.ref l)) Q E s := by
  obtain ⟨o, atT, cls_, n, data_⟩ := id isT
  have pushed : (s.heap.push bareL).get? s.heap.objs.size = some bareL := Heap.get?_push_size _ rfl
  have kept : (s.heap.push bareL).get? l = some o := Heap.get?_push_of_some _ atT
  unfold collect
  refine (wpAny_bind (wpAny_runValue (codeAny_builtin entry_proto_collect' (?_))))
  refine (wpAny_bind (wpAny_newList (wpAny_pure ⟨Code.quiet_builtin _ (by decide +kernel), codeAny_builtin entry_list_iadd' (?_)⟩)))
  show wpAny _ _ (Builtin.List.listExtendWith (.ref s.heap.objs.size) (.ref l) (.ref s.heap.objs.size)) _ _ ({ s with heap := s.heap.push bareL })
  unfold Builtin.List.listExtendWith
  refine (wpAny_bind (wpAny_typeOf (T := "tuple") ⟨o, kept, cls_⟩ (?_)))
  have tt : (Value.type "tuple" == Value.type "tuple") = true := by rfl
  rw [if_pos (by rw [tt, Bool.or_true])]
  refine (wpAny_bind (listItems_at kept data_ (?_)))
  refine (wpAny_bind (listItems_at (xs := #[]) (n := 0) pushed rfl (?_)))
  rw [if_neg (by simp)]
  refine (wpAny_bind (listUpdate_at (xs := #[]) (n := 0) pushed rfl (?_) (Nat.zero_le _) (by show (#[] ++ vs.toArray).size ≤ sizeLine + 1; simp only [Array.size_append, List.size_toArray, List.length_nil]; omega)))
  refine (wpAny_pure (?_))
  show wpAny (model prog w) A (load s.heap.objs.size >>= fun o => match o.data with
      | .seq xs _ => pure xs.toList
      | _ => unsupported "internal:collect") Q E ({ s with heap := (s.heap.push bareL).update s.heap.objs.size (Obj.mapSeq (· ++ vs.toArray)) })
  refine (wpAny_bind (wpAny_load (get?_update_seq pushed _) (?_)))
  show wpAny _ _ (pure ((#[] : Array Value) ++ vs.toArray).toList) _ _ _
  rw [show ((#[] : Array Value) ++ vs.toArray).toList = vs by simp]
  exact (wpAny_pure next)
open PySem.W
theorem sorted_tuple {κ : PyProof.Rows.KeyKind} {l : Addr} {vs : List Value} {Q : Value → Shared → Prop} (isT : s.heap.IsTuple l vs.toArray) (S : SortsAt prog w A.in1.in1 { s with heap := sortingHeap (copyHeap s.heap vs) (s.heap.objs.size + 1) vs } κ vs) (few : vs.length ≤ sizeLine)
    (next : Q (.ref (s.heap.objs.size + 1)) { s with heap := sortedAll s.heap vs (sortVals κ false vs vs).toArray }) : wpAny (model prog w) A (call (.builtin "sorted") [.ref l]) Q E s := by
  refine (Calls.call_function_entry kind_sorted plain_sorted entry_sorted (args_sorted1 (Value.ref l)) (?_))
  unfold Builtin.«sorted»
  refine wpAny_bind (m := checkCount "sorted" 1 1 _) (wpAny_pure (?_))
  refine (wpAny_bind (all_of_tuple isT few (?_)))
  refine (wpAny_bind (wpAny_newList (?_) few))
  have size_ : ((s.heap.push bareL).update s.heap.objs.size (Obj.mapSeq (· ++ vs.toArray))).objs.size = s.heap.objs.size + 1 := by
    rw [Heap.size_update, Heap.size_push]
  show wpAny _ _ _ _ _ ({ s with heap := copyHeap s.heap vs })
  rw [size_]
  refine wpAny_bind (wpAny_holding (wpAny_call_entry_kw slot_list_sort ⟨_, copyHeap_at s.heap vs, rfl⟩ entry_list_sort (?_) (args_list_sort _)))
  show wpAny (model prog w) A.in1.in1 (Builtin.«list.sort» ⟨[.ref (s.heap.objs.size + 1)], []⟩) _ _ _
  refine list_sort_vals (s := { s with heap := copyHeap s.heap vs }) (copyHeap_at s.heap vs) S few ?_
  exact ⟨_, rfl, wpAny_pure ⟨_, rfl, next⟩⟩
end
/-- sorted(t), t a tuple of pairs of whole numbers -/
def rSortT (K : PySem.W.Frag) : List V → Hp → VK → Prop := fun vs H Q => ∃ (a : Addr) (bs : List My.Pn), vs = [V.ref a] ∧ SqT K H a (bs.map My.pnV) ∧ bs.length ≤ 1000 ∧ (∀ b ∈ bs, SqT K H b.1 [.int b.2.1, .int b.2.2]) ∧
  ∀ p, H p = none → Q (.ref p) (upd H p (.lst ((bs.mergeSort fun p q => decide (p.2.1 < q.2.1 ∨ (p.2.1 = q.2.1 ∧ p.2.2 ≤ q.2.2))).map My.pnV)))
open PySem.W in
theorem cr_sortT {X : Cx} (hu : X.A.units + 64 < cLine) : CallR X (.builtin "sorted") (rSortT X.K) := by
  intro pins s σ H vs us Q I r h
  obtain ⟨a, bs, rfl, hs, few, hb, q⟩ := h
  obtain ⟨its, rv, hl, _⟩ := I.tuple hs
  rw [Vals.ref1 r]
  have big : 1000 ≤ sizeLine := by decide
  have e1 : PySem.W.EachIs (fun v b => v = Value.ref b.1) its bs := My.each_of_vals rv fun b _ => rfl
  have e2 : PySem.W.EachIs (fun v b => ∃ as, Reads s.heap v (My.pnD b) as) its bs := My.each_of_vals rv fun b m => Dp.reads I _ (.ref b.1) _ (My.dP (hb b m)) rfl
  have e3 : PySem.W.EachIs (fun v b => ∃ as, Reads (sortingHeap (copyHeap s.heap its) (s.heap.objs.size + 1) its) v (My.pnD b) as) its bs := e2.mono fun _ _ ⟨as, r⟩ => ⟨as, PyProof.Rows.Reads.keeps (fun _ _ => sorting_copy_old) r⟩
  have al : AllAlike (bs.map My.pnD) := AllAlike.of fun b b' => by
    unfold My.pnD My.pD
    simp [PySem.W.alike, PySem.W.alikeAll]
  have so : Sortable (bs.map My.pnD) := Sortable.tuples fun b => ⟨_, _, rfl⟩
  have len_ : its.length = bs.length := e1.length
  have dp : ∀ b : My.Pn, b ∈ bs → X.A.units + 2 + (My.pnD b).depth < cLine := fun b _ => by
    have : (My.pnD b).depth ≤ 8 := by
      unfold My.pnD My.pD
      simp [PyData.depthAll, PyData.depth]
    omega
  have S := SortsAt.data (prog := X.prog) (w := X.w) (A := X.A.in1.in1) (s := { s with heap := sortingHeap (copyHeap s.heap its) (s.heap.objs.size + 1) its }) (each_map (R := fun v d => ∃ as, Reads _ v d as) My.pnD e3) al so (bound_map dp)
  refine sorted_tuple hl S (by rw [len_]; omega) ?_
  have eo := sortVals_data false e1 e3 al
  rw [show PySem.W.dataLe false My.pnD = fun p q : My.Pn => decide (p.2.1 < q.2.1 ∨ (p.2.1 = q.2.1 ∧ p.2.2 ≤ q.2.2)) from PySem.W.dataLe_ii (fun b : My.Pn => b.2.1) (fun b : My.Pn => b.2.2)] at eo
  have rv2 := My.vals_of_each eo
  have hp := I.hok.fresh (Nat.le_succ s.heap.objs.size)
  obtain ⟨ep, he'⟩ := PyProof.Rows.sortedAll_at s.heap its (List.toArray _)
  refine ⟨.ref _, upd H (s.heap.objs.size + 1) (.lst _), I.laid (t' := s.toks) (fun _ _ => PyProof.Rows.sortedAll_old) (Nat.le_succ _) ⟨?_, _, ep, rv2, he'⟩, rfl, q _ hp⟩
  rw [List.length_map, List.length_mergeSort]
  omega
end SrtT
namespace HT
open PySem PySem.Calls PyProof.Rows PySem.W L2
section
variable {prog : Program} {w : World} {A : Around} {E : Value → Shared → Prop} {s : Shared}
theorem back_tuple0 {tup cutter : Addr} {xs : Array Value} {st : Value} {Q : Value → Shared → Prop} (isTup : IsTup s.heap tup xs) (isCut : s.heap.IsSliceOf cutter .none .none st) (minus : IsPart st (some (-1))) (few : xs.size ≤ sizeLine)
    (h : Q (.ref s.heap.objs.size) { s with heap := s.heap.push { cls := .type "tuple", data := .seq xs.toList.reverse.toArray } }) : wpAny (model prog w) A (getItem (.ref tup) (.ref cutter)) Q E s := by
  obtain ⟨oc, hoc, hcc, hdc⟩ := id isCut
  have isS : s.TypeIs (.ref cutter) "slice" := ⟨oc, hoc, hcc⟩
  unfold getItem
  try with_reducible refine wpAny_holding ?_
  first | refine wpAny_bind (wpAny_pure ?_) | skip
  refine wpAny_bind (wpAny_sequenceKey isTup.typeIs (by decide) (?_))
  refine wpAny_bind (wpAny_callSpecial?_slot (name := Str.ofString "__getitem__") isTup.typeIs PyProof.Rows.slot_tuple_getitem (wpAny_call_entry PyProof.Rows.slot_tuple_getitem isTup.typeIs entry_tuple_getitem ?_ (args_tuple_getitem _ _)))
  show wpAny _ _ (Builtin.Tuple.tupleItemsOf (.ref tup) >>= _) _ _ s
  refine wpAny_bind (tupleItemsOf_ isTup ?_)
  refine wpAny_bind (wpAny_typeOf isS (?_))
  rw [if_pos (by decide)]
  have parts : ∀ E' : Value → Shared → Prop, wpAny (model prog w) A.in1 (Builtin.Slice.sliceApplied (.ref cutter) (pure ((xs.size : Nat) : Int))) (fun r s' => r = (((xs.size : Int) - 1), (-1 : Int), xs.size) ∧ s' = s) E' s := by
    intro E'
    unfold Builtin.Slice.sliceApplied Builtin.Slice.sliceFields
    refine wpAny_bind (wpAny_bind (wpAny_field hoc hdc (x := Value.none) rfl (wpAny_bind (wpAny_field hoc hdc (x := Value.none) rfl (wpAny_bind (wpAny_field hoc hdc (x := st) rfl (wpAny_pure ?_)))))))
    refine wpAny_bind (slicePart_ minus ?_)
    show wpAny _ _ (if ((-1 : Int) == 0) = true then _ else _) _ _ s
    rw [if_neg (by decide)]
    refine wpAny_bind (slicePart_none (wpAny_bind (slicePart_none (wpAny_bind (wpAny_pure (wpAny_pure ⟨?_, rfl⟩))))))
    simp [Builtin.Slice.slicePlaces]
    omega
  refine wpAny_bind (wpAny_mono (parts _) (fun r s' z => ?_) fun _ _ e => e)
  obtain ⟨rfl, rfl⟩ := z
  show wpAny _ _ (if (((xs.size : Int) - 1) == 0 && (-1 : Int) == 1 && xs.size == xs.size) = true then _ else _) _ _ s'
  rw [if_neg (by rw [show ((-1 : Int) == 1) = false from rfl, Bool.and_false, Bool.false_and]; decide)]
  rw [back_items]
  have size : sizeOk (.seq xs.toList.reverse.toArray) := by
    show xs.toList.reverse.toArray.size ≤ sizeLine
    rw [List.size_toArray, List.length_reverse, Array.length_toList]
    exact few
  first
    | exact wpAny_bind (m := Builtin.Tuple.tupleExact _) (wpAny_newObj_type (wpAny_pure ⟨_, rfl, wpAny_pure h⟩) size)
    | exact wpAny_bind (m := Builtin.Tuple.tupleExact _) (wpAny_newObj_type (wpAny_bind (wpAny_pure (wpAny_pure ⟨_, rfl, wpAny_pure h⟩))) size)
    | exact wpAny_bind (wpAny_bind (m := Builtin.Tuple.tupleExact _) (wpAny_newObj_type (wpAny_pure (wpAny_pure ⟨_, rfl, wpAny_pure h⟩)) size))
    | exact wpAny_bind (wpAny_bind (m := Builtin.Tuple.tupleExact _) (wpAny_newObj_type (wpAny_pure ⟨_, rfl, wpAny_pure h⟩) size))
end
end HT
namespace My
open PySem PySem.Spec PyProof.Rows L2
section
variable {X : Cx}
def tRevA (K : PySem.W.Frag) (te : TE) : TE := fun σ H Q => te σ H fun x H1 => ∃ a xs, x = .ref a ∧ SqT K H1 a xs ∧ ∀ p, H1 p = none → Q (.ref p) (upd H1 p (.tup xs.reverse))
theorem pe_revA {e : Expr} {te : TE} {k : Nat} {p1 p2 p3 pos : Pos} (inner : PE X e te) : PE X (.Subscript e (.Slice none none (some (.UnaryOp .USub (.Constant (.int 1) k p1) p2)) p3) pos) (tRevA X.K te) := by
  refine ⟨fun pins s σ H Q I goal => ?_⟩
  refine Subscript_ (thn (inner.run pins s σ H _ I goal) fun v s1 ⟨x, H1, I1, r1, q1⟩ => ?_)
  obtain ⟨a, xs, rfl, whole, rest⟩ := q1
  cases r1
  have third : PO X (some (.UnaryOp .USub (.Constant (.int 1) k p1) p2)) (tPart (tUn (rU fun i => .int (-i)) (tC (.int 1)))) := po_some (pe_un un_neg pe_int)
  refine wpAny_Slice (thn (po_none.run pins s1 σ H1 (fun o G => o = none ∧ G = H1) I1 ⟨rfl, rfl⟩) fun vl s2 ⟨l, H2, I2, pl, el, e2⟩ => ?_)
  obtain rfl := el
  obtain rfl := e2
  refine thn (po_none.run pins s2 σ H2 (fun o G => o = none ∧ G = H2) I2 ⟨rfl, rfl⟩) fun vu s3 ⟨u, H3, I3, pu, eu, e3⟩ => ?_
  obtain rfl := eu
  obtain rfl := e3
  refine thn (third.run pins s3 σ H3 (fun o G => o = some (-1) ∧ G = H3) I3 ⟨1, rfl, -1, rfl, rfl, rfl⟩) fun vs s4 ⟨o, H4, I4, ps, eo, e4⟩ => ?_
  obtain rfl := eo
  obtain rfl := e4
  have I5 : Inv X pins σ H4 { s4 with heap := s4.heap.push { cls := .type "slice", data := .fields #[vl, vu, vs] } } := I4.kept (t' := s4.toks) (fun b ob q => Heap.get?_push_of_some _ q)
  obtain ⟨its, r, ht, hz⟩ := I5.tuple whole
  have len := r.length
  cases pl
  cases pu
  show wpAny (model X.prog X.w) X.A (subscriptTail e (.Slice none none (some (.UnaryOp .USub (.Constant (.int 1) k p1) p2)) p3) (.ref a) (.ref s4.heap.objs.size)) (EP X pins σ Q) X.xe _
  refine tail_any (ops := [.ref a, .ref s4.heap.objs.size]) ht.typeIs PyProof.Rows.slot_tuple_getitem.lookup ?_ (by with_unfolding_all rfl)
  refine HT.back_tuple0 ht (Heap.IsSliceOf.new _ _ _ vs) ps (by rw [List.size_toArray]; omega) ?_
  exact ⟨.ref _, _, I5.laid (t' := s4.toks) (o := .tup xs.reverse) (fun b ob q => Heap.get?_push_of_some _ q) (Nat.le_refl _) ⟨by rw [List.length_reverse]; exact hz, _, r.reverse, IsTup.new _ _⟩, rfl, rest _ (I5.hok.fresh (Nat.le_refl _))⟩
end
end My
namespace My
open PySem L2
/-! ## equal or not: what a law's _law_equal answers, told exactly -/
inductive De (K : PySem.W.Frag) (H : Hp) : Nat → V → V → Bool → Prop where
  | int (n : Nat) (i j : Int) : De K H (n + 1) (.int i) (.int j) (decide (i = j))
  | ntup (n : Nat) {x : V} {m : String} {b : Addr} {ys : List V} (h : Ty K H x m) (hm : m ≠ "tuple") (h2 : SqT K H b ys) : De K H (n + 1) x (.ref b) false
  | len (n : Nat) {a b : Addr} {xs ys : List V} (h1 : SqT K H a xs) (h2 : SqT K H b ys) (hl : xs.length ≠ ys.length) : De K H (n + 1) (.ref a) (.ref b) false
  | tup {n : Nat} {a b : Addr} {xs ys : List V} (bs : List Bool) (h1 : SqT K H a xs) (h2 : SqT K H b ys) (hl : xs.length = ys.length) (hz : ys.length ≤ 1000) (hb : bs.length = ys.length)
      (h : ∀ (i : Nat) u v e, xs[i]? = some u → ys[i]? = some v → bs[i]? = some e → De K H n u v e) : De K H (n + 1) (.ref a) (.ref b) (bs.all id)
theorem De.same {K : PySem.W.Frag} {H H' : Hp} (e : Same H H') {n : Nat} {x y : V} {b : Bool} (h : De K H n x y b) : De K H' n x y b := by
  induction h with
  | int n i j => exact .int n i j
  | ntup n h hm h2 => exact .ntup n (h.same e) hm (tSame e h2)
  | len n h1 h2 hl => exact .len n (tSame e h1) (tSame e h2) hl
  | tup bs h1 h2 hl hz hb _ ih => exact .tup bs (tSame e h1) (tSame e h2) hl hz hb ih
/-- two rows of points: equal or not -/
theorem de_points {K : PySem.W.Frag} {H : Hp} {n : Nat} {a b : Addr} {zs ws : List Zp} (h1 : LnAt K H a zs) (h2 : LnAt K H b ws) (lw : ws.length ≤ 1000) : De K H (n + 3) (.ref a) (.ref b) (decide (crd zs = crd ws)) := by
  have l1 : (refs zs).length = zs.length := List.length_map _
  have l2 : (refs ws).length = ws.length := List.length_map _
  by_cases hl : zs.length = ws.length
  rotate_left
  · rw [decide_eq_false fun e => hl (by have := congrArg List.length e; rwa [List.length_map, List.length_map] at this)]
    exact .len (n + 2) h1.t h2.t (by omega)
  let bs : List Bool := (zs.zip ws).map fun p => decide (p.1.2 = p.2.2)
  have eb : decide (crd zs = crd ws) = bs.all id := by
    rw [Bool.eq_iff_iff, decide_eq_true_eq, List.all_eq_true]
    constructor
    · intro e x hx
      obtain ⟨p, hp, rfl⟩ := List.mem_map.mp hx
      obtain ⟨i, hi⟩ := List.getElem?_of_mem hp
      obtain ⟨g1, g2⟩ := List.getElem?_zip_eq_some.mp hi
      refine decide_eq_true ?_
      have c1 : (crd zs)[i]? = some p.1.2 := by rw [List.getElem?_map, g1]; rfl
      have c2 : (crd ws)[i]? = some p.2.2 := by rw [List.getElem?_map, g2]; rfl
      rw [e, c2] at c1
      exact (Option.some.inj c1).symm
    · intro h
      refine List.ext_getElem? fun i => ?_
      rw [List.getElem?_map, List.getElem?_map]
      by_cases hi : i < zs.length
      · rw [List.getElem?_eq_getElem hi, List.getElem?_eq_getElem (show i < ws.length by omega)]
        have m : (zs[i], ws[i]'(by omega)) ∈ zs.zip ws := List.mem_of_getElem? (i := i) (List.getElem?_zip_eq_some.mpr ⟨List.getElem?_eq_getElem hi, List.getElem?_eq_getElem (by omega)⟩)
        have := h _ (List.mem_map.mpr ⟨_, m, rfl⟩)
        exact congrArg some (of_decide_eq_true this)
      · rw [List.getElem?_eq_none (by omega), List.getElem?_eq_none (by omega)]
  rw [eb]
  refine .tup bs h1.t h2.t (by omega) (by omega) (by simp [bs]; omega) fun i u v e hu hv he => ?_
  rw [List.getElem?_map] at hu hv he
  obtain ⟨z, gz, rfl⟩ := Option.map_eq_some_iff.mp hu
  obtain ⟨w, gw, rfl⟩ := Option.map_eq_some_iff.mp hv
  obtain ⟨p, gp, rfl⟩ := Option.map_eq_some_iff.mp he
  obtain ⟨g1, g2⟩ := List.getElem?_zip_eq_some.mp gp
  rw [gz] at g1
  rw [gw] at g2
  have e1 := Option.some.inj g1
  have e2 := Option.some.inj g2
  rw [← e1, ← e2]
  have hz := h1.p z (List.mem_of_getElem? gz)
  have hw := h2.p w (List.mem_of_getElem? gw)
  have eq : decide (z.2 = w.2) = [decide (z.2.1 = w.2.1), decide (z.2.2 = w.2.2)].all id := by
    rw [Bool.eq_iff_iff, decide_eq_true_eq]
    simp [Prod.ext_iff]
  rw [eq]
  refine .tup _ hz hw rfl (show 2 ≤ 1000 by decide) rfl fun j u v e hu hv he => ?_
  match j, hu, hv, he with
  | 0, hu, hv, he => cases hu; cases hv; cases he; exact .int n _ _
  | 1, hu, hv, he => cases hu; cases hv; cases he; exact .int n _ _
theorem call_lenKE {X : Cx} {K : PySem.W.Frag} (h : X.K = K) : CallR X (.builtin "len") (fun xs H Q => ∃ x n, xs = [x] ∧ LenV K x H n ∧ Q (.int n) H) := by
  subst h
  exact call_len
/-- a piece of a row of points -/
theorem cut_refs (ws : List Zp) (lo hi : Option Int) : ∃ cs : List Zp, cutV (refs ws) lo hi = refs cs ∧ (∀ z ∈ cs, z ∈ ws) ∧ cs.length ≤ ws.length := by
  refine ⟨_, (by unfold cutV; rw [refs_drop, refs_take]), fun z h => List.mem_of_mem_drop (List.mem_of_mem_take h), ?_⟩
  rw [List.length_take, List.length_drop]
  omega
end My
namespace My
open PySem L2
/-! the steps of a reading -/
local macro_rules | `(tactic| walk_at "t") => `(tactic| first
  | assumption
  | exact tHere
  | exact lHere
  | (refine tOver (by assumption) ?_; walk_at "t")
  | (refine lOver (by assumption) ?_; walk_at "t")
  | (refine tSame (by assumption) ?_; walk_at "t")
  | (refine tBut (by assumption) (by assumption) ?_; walk_at "t"))
local macro_rules | `(tactic| walk_at "ix") => `(tactic| first | exact at0 | exact at1 | exact at2 | exact at3 | rfl)
local macro_rules | `(tactic| walk_at "r1") => `(tactic| first
  | refine ⟨_, rfl, ?_⟩
  | refine ⟨_, _, rfl, rfl, ?_⟩
  | refine ⟨rfl, ?_⟩
  | refine ⟨_, _, _, _, rfl, rfl, (by walk_at "t"), (by walk_at "ix"), ?_⟩
  | refine ⟨small rfl, ?_⟩)
local macro_rules | `(tactic| walk_at "r") => `(tactic| repeat walk_at "r1")
def top (i : Nat) : Stmt := PySem.Challenge.pw_trueatlas_k11_whole_any_hull.main.body.getD i (.Pass ⟨0, 0, 0, 0⟩)
abbrev s_is_whole : Stmt := (top 4)
abbrev N_is_whole : List Str := ["value"]
theorem sc_is_whole : FnScope N_is_whole ["value"] (defScope s_is_whole) := ⟨rfl, rfl, rfl, by decide +kernel, rfl, by decide +kernel, by decide +kernel⟩
abbrev s_is_pair : Stmt := (top 5)
abbrev N_is_pair : List Str := ["value"]
theorem sc_is_pair : FnScope N_is_pair ["value"] (defScope s_is_pair) := ⟨rfl, rfl, rfl, by decide +kernel, rfl, by decide +kernel, by decide +kernel⟩
abbrev s_need : Stmt := (top 6)
abbrev N_need : List Str := ["holds", "name"]
theorem sc_need : FnScope N_need ["holds", "name"] (defScope s_need) := ⟨rfl, rfl, rfl, by decide +kernel, rfl, by decide +kernel, by decide +kernel⟩
abbrev s_is_coordinate : Stmt := (top 10)
abbrev N_is_coordinate : List Str := ["value"]
theorem sc_is_coordinate : FnScope N_is_coordinate ["value"] (defScope s_is_coordinate) := ⟨rfl, rfl, rfl, by decide +kernel, rfl, by decide +kernel, by decide +kernel⟩
abbrev s_is_point : Stmt := (top 11)
abbrev N_is_point : List Str := ["value"]
theorem sc_is_point : FnScope N_is_point ["value"] (defScope s_is_point) := ⟨rfl, rfl, rfl, by decide +kernel, rfl, by decide +kernel, by decide +kernel⟩
abbrev s_are_points : Stmt := (top 12)
abbrev N_are_points : List Str := ["value", "least", "most", "p"]
theorem sc_are_points : FnScope N_are_points ["value", "least", "most"] (defScope s_are_points) := ⟨rfl, rfl, rfl, by decide +kernel, rfl, by decide +kernel, by decide +kernel⟩
abbrev s_turn_of : Stmt := (top 13)
abbrev N_turn_of : List Str := ["a", "b", "c"]
theorem sc_turn_of : FnScope N_turn_of ["a", "b", "c"] (defScope s_turn_of) := ⟨rfl, rfl, rfl, by decide +kernel, rfl, by decide +kernel, by decide +kernel⟩
abbrev s_is_on : Stmt := (top 14)
abbrev N_is_on : List Str := ["p", "segment", "a", "b"]
theorem sc_is_on : FnScope N_is_on ["p", "segment"] (defScope s_is_on) := ⟨rfl, rfl, rfl, by decide +kernel, rfl, by decide +kernel, by decide +kernel⟩
abbrev s_ways_around : Stmt := (top 17)
abbrev N_ways_around : List Str := ["points"]
theorem sc_ways_around : FnScope N_ways_around ["points"] (defScope s_ways_around) := ⟨rfl, rfl, rfl, by decide +kernel, rfl, by decide +kernel, by decide +kernel⟩
abbrev s_left_turns : Stmt := (top 18)
abbrev N_left_turns : List Str := ["points", "row", "p"]
theorem sc_left_turns : FnScope N_left_turns ["points"] (defScope s_left_turns) := ⟨rfl, rfl, rfl, by decide +kernel, rfl, by decide +kernel, by decide +kernel⟩
abbrev s_hull_of : Stmt := (top 19)
abbrev N_hull_of : List Str := ["points", "places", "below", "above"]
theorem sc_hull_of : FnScope N_hull_of ["points"] (defScope s_hull_of) := ⟨rfl, rfl, rfl, by decide +kernel, rfl, by decide +kernel, by decide +kernel⟩
abbrev s_are_corners : Stmt := (top 20)
abbrev N_are_corners : List Str := ["points", "value", "corner"]
theorem sc_are_corners : FnScope N_are_corners ["points", "value"] (defScope s_are_corners) := ⟨rfl, rfl, rfl, by decide +kernel, rfl, by decide +kernel, by decide +kernel⟩
abbrev s_turns_left : Stmt := (top 21)
abbrev N_turns_left : List Str := ["corners", "around", "b", "c", "a"]
theorem sc_turns_left : FnScope N_turns_left ["corners"] (defScope s_turns_left) := ⟨rfl, rfl, rfl, by decide +kernel, rfl, by decide +kernel, by decide +kernel⟩
abbrev s_is_hull : Stmt := (top 22)
abbrev N_is_hull : List Str := ["points", "value", "a", "b", "p"]
theorem sc_is_hull : FnScope N_is_hull ["points", "value"] (defScope s_is_hull) := ⟨rfl, rfl, rfl, by decide +kernel, rfl, by decide +kernel, by decide +kernel⟩
abbrev s__law_stream : Stmt := (top 24)
abbrev N__law_stream : List Str := ["script"]
theorem sc__law_stream : FnScope N__law_stream ["script"] (defScope s__law_stream) := ⟨rfl, rfl, rfl, by decide +kernel, rfl, by decide +kernel, by decide +kernel⟩
abbrev s__law_next : Stmt := (top 25)
abbrev N__law_next : List Str := ["stream", "many", "k", "cell", "digit"]
theorem sc__law_next : FnScope N__law_next ["stream", "many"] (defScope s__law_next) := ⟨rfl, rfl, rfl, by decide +kernel, rfl, by decide +kernel, by decide +kernel⟩
abbrev s__law_is_integer : Stmt := (top 26)
abbrev N__law_is_integer : List Str := ["actual"]
theorem sc__law_is_integer : FnScope N__law_is_integer ["actual"] (defScope s__law_is_integer) := ⟨rfl, rfl, rfl, by decide +kernel, rfl, by decide +kernel, by decide +kernel⟩
abbrev s__law_equal : Stmt := (top 33)
abbrev N__law_equal : List Str := ["actual", "due", "at"]
theorem sc__law_equal : FnScope N__law_equal ["actual", "due"] (defScope s__law_equal) := ⟨rfl, rfl, rfl, by decide +kernel, rfl, by decide +kernel, by decide +kernel⟩
abbrev s__law_point : Stmt := (top 37)
abbrev N__law_point : List Str := ["stream", "far"]
theorem sc__law_point : FnScope N__law_point ["stream", "far"] (defScope s__law_point) := ⟨rfl, rfl, rfl, by decide +kernel, rfl, by decide +kernel, by decide +kernel⟩
abbrev s__law_other : Stmt := (top 40)
abbrev N__law_other : List Str := ["stream", "points", "hull", "at", "pick", "p", "k"]
theorem sc__law_other : FnScope N__law_other ["stream", "points", "hull"] (defScope s__law_other) := ⟨rfl, rfl, rfl, by decide +kernel, rfl, by decide +kernel, by decide +kernel⟩
abbrev s_law : Stmt := (top 41)
abbrev N_law : List Str := ["script", "stream", "far", "points", "hull", "other", "told", "k", "p"]
theorem sc_law : FnScope N_law ["script"] (defScope s_law) := ⟨rfl, rfl, rfl, by decide +kernel, rfl, by decide +kernel, by decide +kernel⟩
structure Txt (K : PySem.W.Frag) (mg : Str → Option Value) where
  a_is_whole : Addr
  d_is_whole : FuncData
  F_is_whole : Fun K "is_whole" "is_whole" s_is_whole a_is_whole d_is_whole
  m_is_whole : mg "is_whole" = some (.ref a_is_whole)
  b_is_whole : Binds K d_is_whole ["value"] []
  a_is_pair : Addr
  d_is_pair : FuncData
  F_is_pair : Fun K "is_pair" "is_pair" s_is_pair a_is_pair d_is_pair
  m_is_pair : mg "is_pair" = some (.ref a_is_pair)
  b_is_pair : Binds K d_is_pair ["value"] []
  a_need : Addr
  d_need : FuncData
  F_need : Fun K "need" "need" s_need a_need d_need
  m_need : mg "need" = some (.ref a_need)
  b_need : Binds K d_need ["holds", "name"] []
  a_is_coordinate : Addr
  d_is_coordinate : FuncData
  F_is_coordinate : Fun K "is_coordinate" "is_coordinate" s_is_coordinate a_is_coordinate d_is_coordinate
  m_is_coordinate : mg "is_coordinate" = some (.ref a_is_coordinate)
  b_is_coordinate : Binds K d_is_coordinate ["value"] []
  a_is_point : Addr
  d_is_point : FuncData
  F_is_point : Fun K "is_point" "is_point" s_is_point a_is_point d_is_point
  m_is_point : mg "is_point" = some (.ref a_is_point)
  b_is_point : Binds K d_is_point ["value"] []
  a_are_points : Addr
  d_are_points : FuncData
  cc_are_points : Addr
  P_are_points : Addr
  F_are_points : FunT K "are_points" "are_points" s_are_points a_are_points d_are_points cc_are_points
  m_are_points : mg "are_points" = some (.ref a_are_points)
  b_are_points : Binds K d_are_points ["value", "least", "most"] []
  a_turn_of : Addr
  d_turn_of : FuncData
  F_turn_of : Fun K "turn_of" "turn_of" s_turn_of a_turn_of d_turn_of
  m_turn_of : mg "turn_of" = some (.ref a_turn_of)
  b_turn_of : Binds K d_turn_of ["a", "b", "c"] []
  a_is_on : Addr
  d_is_on : FuncData
  F_is_on : Fun K "is_on" "is_on" s_is_on a_is_on d_is_on
  m_is_on : mg "is_on" = some (.ref a_is_on)
  b_is_on : Binds K d_is_on ["p", "segment"] []
  a_ways_around : Addr
  d_ways_around : FuncData
  F_ways_around : Fun K "ways_around" "ways_around" s_ways_around a_ways_around d_ways_around
  m_ways_around : mg "ways_around" = some (.ref a_ways_around)
  b_ways_around : Binds K d_ways_around ["points"] []
  a_left_turns : Addr
  d_left_turns : FuncData
  F_left_turns : Fun K "left_turns" "left_turns" s_left_turns a_left_turns d_left_turns
  m_left_turns : mg "left_turns" = some (.ref a_left_turns)
  b_left_turns : Binds K d_left_turns ["points"] []
  a_hull_of : Addr
  d_hull_of : FuncData
  F_hull_of : Fun K "hull_of" "hull_of" s_hull_of a_hull_of d_hull_of
  m_hull_of : mg "hull_of" = some (.ref a_hull_of)
  b_hull_of : Binds K d_hull_of ["points"] []
  a_are_corners : Addr
  d_are_corners : FuncData
  cc_are_corners : Addr
  P_are_corners : Addr
  F_are_corners : FunT K "are_corners" "are_corners" s_are_corners a_are_corners d_are_corners cc_are_corners
  m_are_corners : mg "are_corners" = some (.ref a_are_corners)
  b_are_corners : Binds K d_are_corners ["points", "value"] []
  a_turns_left : Addr
  d_turns_left : FuncData
  cc_turns_left : Addr
  P_turns_left : Addr
  F_turns_left : FunT K "turns_left" "turns_left" s_turns_left a_turns_left d_turns_left cc_turns_left
  m_turns_left : mg "turns_left" = some (.ref a_turns_left)
  b_turns_left : Binds K d_turns_left ["corners"] []
  a_is_hull : Addr
  d_is_hull : FuncData
  cc_is_hull : Addr
  P_is_hull : Addr
  F_is_hull : FunT K "is_hull" "is_hull" s_is_hull a_is_hull d_is_hull cc_is_hull
  m_is_hull : mg "is_hull" = some (.ref a_is_hull)
  b_is_hull : Binds K d_is_hull ["points", "value"] []
  a__law_stream : Addr
  d__law_stream : FuncData
  F__law_stream : Fun K "_law_stream" "_law_stream" s__law_stream a__law_stream d__law_stream
  m__law_stream : mg "_law_stream" = some (.ref a__law_stream)
  b__law_stream : Binds K d__law_stream ["script"] []
  a__law_next : Addr
  d__law_next : FuncData
  F__law_next : Fun K "_law_next" "_law_next" s__law_next a__law_next d__law_next
  m__law_next : mg "_law_next" = some (.ref a__law_next)
  b__law_next : Binds K d__law_next ["stream", "many"] []
  a__law_is_integer : Addr
  d__law_is_integer : FuncData
  F__law_is_integer : Fun K "_law_is_integer" "_law_is_integer" s__law_is_integer a__law_is_integer d__law_is_integer
  m__law_is_integer : mg "_law_is_integer" = some (.ref a__law_is_integer)
  b__law_is_integer : Binds K d__law_is_integer ["actual"] []
  a__law_equal : Addr
  d__law_equal : FuncData
  F__law_equal : Fun K "_law_equal" "_law_equal" s__law_equal a__law_equal d__law_equal
  m__law_equal : mg "_law_equal" = some (.ref a__law_equal)
  b__law_equal : Binds K d__law_equal ["actual", "due"] []
  a__law_point : Addr
  d__law_point : FuncData
  F__law_point : Fun K "_law_point" "_law_point" s__law_point a__law_point d__law_point
  m__law_point : mg "_law_point" = some (.ref a__law_point)
  b__law_point : Binds K d__law_point ["stream", "far"] []
  a__law_other : Addr
  d__law_other : FuncData
  F__law_other : Fun K "_law_other" "_law_other" s__law_other a__law_other d__law_other
  m__law_other : mg "_law_other" = some (.ref a__law_other)
  b__law_other : Binds K d__law_other ["stream", "points", "hull"] []
  a_law : Addr
  d_law : FuncData
  F_law : Fun K "law" "law" s_law a_law d_law
  m_law : mg "law" = some (.ref a_law)
  b_law : Binds K d_law ["script"] []
  n_abs : mg "abs" = none
  n_all : mg "all" = none
  n_bool : mg "bool" = none
  n_int : mg "int" = none
  n_isinstance : mg "isinstance" = none
  n_len : mg "len" = none
  n_list : mg "list" = none
  n_min : mg "min" = none
  n_range : mg "range" = none
  n_set : mg "set" = none
  n_sorted : mg "sorted" = none
  n_str : mg "str" = none
  n_tuple : mg "tuple" = none
  n_zip : mg "zip" = none
  c_HIGHEST : ∃ t, mg "HIGHEST" = some (.int (1000) t)
  c_LOWEST : ∃ t, mg "LOWEST" = some (.int (-1000) t)
  c_MOST_OF_HULL : ∃ t, mg "MOST_OF_HULL" = some (.int (60) t)
  C_BadValue : Addr
  i_BadValue : Addr
  bv : PySem.BvX.BvTxt K mg C_BadValue i_BadValue
/-- the tables of the defs that hold generator expressions -/
def Txt.ts {K : PySem.W.Frag} {mg : Str → Option Value} (T : Txt K mg) : List Addr := [T.P_are_points, T.P_are_corners, T.P_turns_left, T.P_is_hull]
structure TxtB {K : PySem.W.Frag} {mg : Str → Option Value} (T : Txt K mg) (base : Heap) (w : World) : Prop where
  t_are_points : GxR.TabB base mg T.cc_are_points T.P_are_points
  t_are_corners : GxR.TabB base mg T.cc_are_corners T.P_are_corners
  t_turns_left : GxR.TabB base mg T.cc_turns_left T.P_turns_left
  t_is_hull : GxR.TabB base mg T.cc_is_hull T.P_is_hull
section
variable {P : Program} {w : World} {K : PySem.W.Frag} {mg : Str → Option Value} {base : Heap}
theorem ok_is_whole (T : Txt K mg) (TB : TxtB T base w) : FnOk P w K mg base CX0 1 T.a_is_whole T.d_is_whole ["value"] (fun vs H Q _ => ∃ x n, vs = [x] ∧ Ty K H x n ∧ Q (.bl (n == "int")) H) := by
  refine T.F_is_whole.ok sc_is_whole (fun vs H Q E h => ?_) (fun cdv A outer s H vs Q E hr h => ?_)
  · obtain ⟨x, n, rfl, hx, k⟩ := h
    rfl
  · obtain ⟨x, n, rfl, hx, k⟩ := h
    refine ⟨_, (pss_one (ps_ret (pe_and (pe_callB call_isi (by rfl) T.n_isinstance (by decide +kernel) (pa_cons (pv 0) (pa_cons (pe_bltn (v := .ty "int") (by rfl) T.n_int (by decide +kernel) rfl) pa_nil))) (pe_one (pe_not (pe_callB call_isi (by rfl) T.n_isinstance (by decide +kernel) (pa_cons (pv 0) (pa_cons (pe_bltn (v := .ty "bool") (by rfl) T.n_bool (by decide +kernel) rfl) pa_nil)))))))), ?_⟩
    refine ⟨_, rfl, ⟨_, _, _, _, _, rfl, .ty _, (hx).x, isaN (Ty.six hx) (by simp [My.six]), ⟨_, rfl, ?_⟩⟩⟩
    cases hx
    all_goals first | (refine ifTr (by decide) ?_) | (refine ifFa (by decide) ?_; exact k)
    · exact ⟨_, rfl, ⟨_, _, _, _, _, rfl, .ty _, ((Ty.bl _)).x, isaN (by simp [My.six]) (by simp [My.six]), ⟨_, rfl, k⟩⟩⟩
    · exact ⟨_, rfl, ⟨_, _, _, _, _, rfl, .ty _, ((Ty.int _)).x, isaN (by simp [My.six]) (by simp [My.six]), ⟨_, rfl, k⟩⟩⟩
theorem ok_is_pair (T : Txt K mg) (TB : TxtB T base w) : FnOk P w K mg base CX0 1 T.a_is_pair T.d_is_pair ["value"] (fun vs H Q _ => ∃ x n, vs = [x] ∧ Ty K H x n ∧ (n = "tuple" → ∃ a xs, x = .ref a ∧ SqT K H a xs ∧ Q (.bl (xs.length == 2)) H) ∧ (n ≠ "tuple" → Q (.bl false) H)) := by
  refine T.F_is_pair.ok sc_is_pair (fun vs H Q E h => ?_) (fun cdv A outer s H vs Q E hr h => ?_)
  · obtain ⟨x, n, rfl, hx, k1, k2⟩ := h
    rfl
  · obtain ⟨x, n, rfl, hx, k1, k2⟩ := h
    refine ⟨_, (pss_one (ps_ret (pe_and (pe_callB call_isi (by rfl) T.n_isinstance (by decide +kernel) (pa_cons (pv 0) (pa_cons (pe_bltn (v := .ty "tuple") (by rfl) T.n_tuple (by decide +kernel) rfl) pa_nil))) (pe_one (pe_cmpR op_eq (pe_callB call_len (by rfl) T.n_len (by decide +kernel) (pa_cons (pv 0) pa_nil)) pe_int (nomark _)))))), ?_⟩
    refine ⟨_, rfl, ⟨_, _, _, _, _, rfl, .ty _, (hx).x, isaN (Ty.six hx) (by simp [My.six]), ⟨_, rfl, ?_⟩⟩⟩
    by_cases e : n = "tuple"
    · subst e
      refine ifTr (by decide) ?_
      obtain ⟨a, xs, rfl, ht, k⟩ := k1 rfl
      refine ⟨_, rfl, _, _, rfl, .inr ⟨xs, ht, rfl⟩, rfl, ?_⟩
      have e : decide (V.int (xs.length : Int) = V.int 2) = (xs.length == 2) := by
        by_cases q : xs.length = 2
        · rw [q]; rfl
        · rw [beq_false_of_ne q]; exact decide_eq_false fun z => q (by injection z with z; omega)
      rw [e]
      exact k
    · refine ifFa ?_ (k2 e)
      cases hx <;> first | rfl | exact absurd rfl e
theorem ok_need (T : Txt K mg) (TB : TxtB T base w) : FnOk P w K mg base CX0 2 T.a_need T.d_need ["holds", "name"] (fun vs H Q _ => ∃ b x, vs = [.bl b, x] ∧ b = true ∧ Q .non H) := by
  refine T.F_need.ok sc_need (fun vs H Q E h => ?_) (fun cdv A outer s H vs Q E hr h => ?_)
  · obtain ⟨b, x, rfl, rfl, k⟩ := h
    rfl
  · obtain ⟨b, x, rfl, rfl, k⟩ := h
    refine ⟨_, (pss_one (ps_if (pt_not (pt_val (pv 0)))
        (pss_one ps_never)
        pss_nil)), ?_⟩
    exact ⟨_, rfl, _, rfl, iteF k⟩
theorem ok_is_coordinate (T : Txt K mg) (TB : TxtB T base w) : FnOk P w K mg base CX0 2 T.a_is_coordinate T.d_is_coordinate ["value"] (fun vs H Q _ => ∃ x n, vs = [x] ∧ Ty K H x n ∧ Q (.bl (coordB x)) H) := by
  refine T.F_is_coordinate.ok sc_is_coordinate (fun vs H Q E h => ?_) (fun cdv A outer s H vs Q E hr h => ?_)
  · obtain ⟨x, n, rfl, hx, k⟩ := h
    rfl
  · obtain ⟨x, n, rfl, hx, k⟩ := h
    refine ⟨_, (pss_one (ps_ret (pe_and (pe_call (ok_is_whole T TB) (hr.mono (by omega)) rfl T.m_is_whole T.F_is_whole.kp T.b_is_whole .nil pass0 (pa_cons (pv 0) pa_nil)) (pe_one (pe_chain op_le op_le (pe_gI T.c_LOWEST) (pv 0) (pe_gI T.c_HIGHEST)))))), ?_⟩
    refine ⟨_, rfl, _, _, rfl, hx, ⟨_, rfl, ?_⟩⟩
    cases hx
    all_goals first | (refine ifTr (by decide) ?_) | (refine ifFa (by decide) ?_; exact k)
    rename_i i
    refine ⟨_, rfl, _, _, rfl, rfl, ⟨_, rfl, ?_⟩⟩
    refine ifB (fun e => ?_) (fun e => ?_)
    · refine ⟨_, _, rfl, rfl, ?_⟩
      rw [show coordB (.int i) = (decide (-1000 ≤ i) && decide (i ≤ 1000)) from rfl, e, Bool.true_and] at k
      exact k
    · rw [show coordB (.int i) = (decide (-1000 ≤ i) && decide (i ≤ 1000)) from rfl, e, Bool.false_and] at k
      exact k
theorem ok_is_point (T : Txt K mg) (TB : TxtB T base w) : FnOk P w K mg base CX0 3 T.a_is_point T.d_is_point ["value"] (fun vs H Q _ => ∃ x b, vs = [x] ∧ PV K H x b ∧ Q (.bl b) H) := by
  refine T.F_is_point.ok sc_is_point (fun vs H Q E h => ?_) (fun cdv A outer s H vs Q E hr h => ?_)
  · obtain ⟨x, b, rfl, ⟨n, hx, h1, h2⟩, k⟩ := h
    rfl
  · obtain ⟨x, b, rfl, ⟨n, hx, h1, h2⟩, k⟩ := h
    refine ⟨_, (pss_one (ps_ret (pe_and (pe_call (ok_is_pair T TB) (hr.mono (by omega)) rfl T.m_is_pair T.F_is_pair.kp T.b_is_pair .nil pass0 (pa_cons (pv 0) pa_nil)) (pe_and (pe_call (ok_is_coordinate T TB) (hr.mono (by omega)) rfl T.m_is_coordinate T.F_is_coordinate.kp T.b_is_coordinate .nil pass0 (pa_cons (pe_ix (r := rIxT K) ix_tup (pv 0) pe_int (fun _ _ => rfl)) pa_nil)) (pe_one (pe_call (ok_is_coordinate T TB) (hr.mono (by omega)) rfl T.m_is_coordinate T.F_is_coordinate.kp T.b_is_coordinate .nil pass0 (pa_cons (pe_ix (r := rIxT K) ix_tup (pv 0) pe_int (fun _ _ => rfl)) pa_nil))))))), ?_⟩
    have k1 : n = "tuple" → ∃ a xs, x = .ref a ∧ SqT K H a xs ∧ (∀ v ∈ xs, ∃ m, Ty K H v m) ∧ Q (.bl (pointB xs)) H := fun e => by
      obtain ⟨a, xs, e1, e2, e3, e4⟩ := h1 e
      exact ⟨a, xs, e1, e2, e3, by rw [← e4]; exact k⟩
    have k2 : n ≠ "tuple" → Q (.bl false) H := fun e => by rw [← h2 e]; exact k
    refine ⟨_, rfl, _, _, rfl, hx, fun e => ?_, fun e => ?_⟩
    · obtain ⟨a, xs, rfl, ht, hm, k⟩ := k1 e
      refine ⟨a, xs, rfl, ht, _, rfl, ?_⟩
      match xs, ht, hm, k with
      | [], _, _, k => exact iteF k
      | [_], _, _, k => exact iteF k
      | [u, v], ht, hm, k =>
        refine iteT ?_
        obtain ⟨m1, t1⟩ := hm u (by simp)
        obtain ⟨m2, t2⟩ := hm v (by simp)
        refine ⟨_, rfl, _, _, _, _, rfl, rfl, ht, at0, _, _, rfl, t1, _, rfl, ?_⟩
        rw [show pointB [u, v] = (coordB u && coordB v) from rfl] at k
        refine ifB (fun e => ?_) (fun e => ?_)
        · refine ⟨_, rfl, _, _, _, _, rfl, rfl, ht, at1, _, _, rfl, t2, ?_⟩
          rw [e, Bool.true_and] at k
          exact k
        · rw [e, Bool.false_and] at k
          exact k
      | _ :: _ :: _ :: r, _, _, k =>
        refine ifFa ?_ k
        exact beq_false_of_ne (by simp)
    · exact ⟨_, rfl, iteF (k2 e)⟩
theorem ok_are_points (T : Txt K mg) (TB : TxtB T base w) : FnOk P w K mg base CX0 7 T.a_are_points T.d_are_points ["value", "least", "most"] (fun vs H Q _ => ∃ x b lo hi, vs = [x, .int lo, .int hi] ∧ AV K lo hi H x b ∧ Tbs T.ts H ∧ ∀ H', Same H H' → Q (.bl b) H') := by
  refine T.F_are_points.ok sc_are_points (fun vs H Q E h => ?_) (fun A outer s H vs Q E hr h => ?_)
  · obtain ⟨x, b, lo, hi, rfl, ⟨n, hx, h1, h2⟩, tb, k⟩ := h
    rfl
  · obtain ⟨x, b, lo, hi, rfl, ⟨n, hx, h1, h2⟩, tb, k⟩ := h
    refine ⟨_, (pss_one (ps_ret (pe_and (pe_callB call_isi (by rfl) T.n_isinstance (by decide +kernel) (pa_cons (pv 0) (pa_cons (pe_bltn (v := .ty "tuple") (by rfl) T.n_tuple (by decide +kernel) rfl) pa_nil))) (pe_and (pe_chain op_le op_le (pv 1) (pe_callB call_len (by rfl) T.n_len (by decide +kernel) (pa_cons (pv 0) pa_nil)) (pv 2)) (pe_one (Gx.pe_gen false (own := [("p", 3)]) (g := gName 3) (tt := tYes) (x := "p") (k := 3) rfl (hr.mono (by omega)) rfl sc_are_points.nd rfl T.n_all TB.t_are_points rfl (Gx.genS_by rfl rfl (by decide +kernel) rfl rfl (by rfl)) (blkOk_by (own := [("p", 3)]) (N := N_are_points) (sc := defScope s_are_points) (by decide +kernel)) (pi_tup (pv 0)) (fun _ _ _ _ _ _ _ hB => (pg_name (i := 3) sc_are_points.nd rfl (Or.inl rfl))) (fun _ _ _ _ _ _ _ hB => pts_nil) (fun _ _ _ _ _ _ _ hB => (pe_call (ok_is_point T TB) (hB.mono (by omega)) rfl T.m_is_point T.F_is_point.kp T.b_is_point .nil pass0 (pa_cons (pv 3) pa_nil))) (fun _ => rfl))))))), ?_⟩
    refine ⟨_, rfl, _, _, _, _, _, rfl, .ty _, hx.x, isaN hx.six (by simp [My.six]), _, rfl, ?_⟩
    by_cases e : n = "tuple"
    rotate_left
    · rw [h2 e] at k
      refine ifFa ?_ (k _ (Same.refl _))
      cases hx <;> first | rfl | exact absurd rfl e
    subst e
    refine ifTr (by decide) ?_
    obtain ⟨a, xs, bs, rfl, ht, hl, hb, hr, rfl⟩ := h1 rfl
    refine ⟨_, rfl, _, rfl, _, _, rfl, .inr ⟨_, ht, rfl⟩, _, _, rfl, rfl, _, rfl, ?_⟩
    refine ifB (fun e1 => ?_) (fun e1 => ?_)
    rotate_left
    · have k := k _ (Same.refl _)
      rw [e1, Bool.false_and, Bool.false_and] at k
      exact ⟨_, rfl, iteF k⟩
    refine ⟨_, rfl, _, _, rfl, rfl, _, rfl, ?_⟩
    refine ifB (fun e2 => ?_) (fun e2 => ?_)
    rotate_left
    · have k := k _ (Same.refl _)
      rw [e2, Bool.and_false, Bool.false_and] at k
      exact k
    have kq : ∀ H', Same H H' → Q (.bl (bs.all id)) H' := fun H' s => by
      have := k H' s
      rw [e1, e2, Bool.true_and, Bool.true_and] at this
      exact this
    refine ⟨_, rfl, _, rfl, ⟨_, ht⟩, tb _ (by simp [Txt.ts]), fun H2 g2 => ?_⟩
    have s2 := same_tab (tb _ (by simp [Txt.ts])) g2
    refine Gx.gen_walk walk_tup (fun i H' => Same H H' ∧ ∀ j c, j < i → bs[j]? = some c → c = true) ⟨s2, fun j c h => absurd h (Nat.not_lt_zero _)⟩ (fun i H' h => tSame h.1 ht) ?_ ?_
    · rintro i x H3 H4 hi ⟨s3, ha⟩ ⟨rfl, hxi⟩
      refine ⟨rfl, yesI ?_⟩
      refine iteT ?_
      have hbi : bs[i]? = some bs[i] := List.getElem?_eq_getElem (by omega)
      refine ⟨_, rfl, _, _, rfl, (hr i x _ hxi hbi).same s3, _, rfl, ?_⟩
      by_cases q : bs[i] = false
      · refine (if_pos q).mpr ?_
        have := kq _ s3
        rw [show bs.all id = false from List.all_eq_false.mpr ⟨bs[i], List.mem_of_getElem? hbi, by rw [q]; decide⟩] at this
        exact this
      · refine (if_neg q).mpr ⟨s3, fun j c hj hc => ?_⟩
        by_cases z : j = i
        · subst z
          rw [hbi] at hc
          cases hc
          cases w : bs[j] with
          | true => rfl
          | false => exact absurd w q
        · exact ha j c (by omega) hc
    · rintro H3 ⟨s3, ha⟩
      have := kq _ s3
      rw [show bs.all id = true from all_get.mpr fun i c h => by have q := (List.getElem?_eq_some_iff.mp h).1; exact ha i c (by omega) h] at this
      exact this
theorem ok_turn_of (T : Txt K mg) (TB : TxtB T base w) : FnOk P w K mg base CX0 1 T.a_turn_of T.d_turn_of ["a", "b", "c"] (fun vs H Q _ => ∃ (a b c : Addr) (ax ay bx dy cx cy : Int), vs = [.ref a, .ref b, .ref c] ∧ SqT K H a [.int ax, .int ay] ∧ SqT K H b [.int bx, .int dy] ∧ SqT K H c [.int cx, .int cy] ∧ (Sm ax ∧ Sm bx ∧ Sm ay ∧ Sm dy) ∧ Q (.int (turnI ax ay bx dy cx cy)) H) := by
  refine T.F_turn_of.ok sc_turn_of (fun vs H Q E h => ?_) (fun cdv A outer s H vs Q E hr h => ?_)
  · obtain ⟨a, b, c, ax, ay, bx, dy, cx, cy, rfl, ha, hb, hc, ⟨s1, s2, s3, s4⟩, k⟩ := h
    rfl
  · obtain ⟨a, b, c, ax, ay, bx, dy, cx, cy, rfl, ha, hb, hc, ⟨s1, s2, s3, s4⟩, k⟩ := h
    refine ⟨_, (pss_one (ps_ret (pe_op op_sub (pe_op op_mul (pe_op op_sub (pe_ix (r := rIxT K) ix_tup (pv 1) pe_int (fun _ _ => rfl)) (pe_ix (r := rIxT K) ix_tup (pv 0) pe_int (fun _ _ => rfl))) (pe_op op_sub (pe_ix (r := rIxT K) ix_tup (pv 2) pe_int (fun _ _ => rfl)) (pe_ix (r := rIxT K) ix_tup (pv 0) pe_int (fun _ _ => rfl)))) (pe_op op_mul (pe_op op_sub (pe_ix (r := rIxT K) ix_tup (pv 1) pe_int (fun _ _ => rfl)) (pe_ix (r := rIxT K) ix_tup (pv 0) pe_int (fun _ _ => rfl))) (pe_op op_sub (pe_ix (r := rIxT K) ix_tup (pv 2) pe_int (fun _ _ => rfl)) (pe_ix (r := rIxT K) ix_tup (pv 0) pe_int (fun _ _ => rfl))))))), ?_⟩
    unfold Sm at s1 s2 s3 s4
    refine ⟨_, rfl, _, _, _, _, rfl, rfl, hb, at0, _, rfl, _, _, _, _, rfl, rfl, ha, at0, _, _, rfl, rfl, _, rfl, _, _, _, _, rfl, rfl, hc, at1, _, rfl, _, _, _, _, rfl, rfl, ha, at1, _, _, rfl, rfl, _, _, rfl, rfl, .inl ⟨by omega, by omega⟩, ?_⟩
    exact ⟨_, rfl, _, _, _, _, rfl, rfl, hb, at1, _, rfl, _, _, _, _, rfl, rfl, ha, at1, _, _, rfl, rfl, _, rfl, _, _, _, _, rfl, rfl, hc, at0, _, rfl, _, _, _, _, rfl, rfl, ha, at0, _, _, rfl, rfl, _, _, rfl, rfl, .inl ⟨by omega, by omega⟩, _, _, rfl, rfl, k⟩
theorem ok_is_on (T : Txt K mg) (TB : TxtB T base w) : FnOk P w K mg base CX0 2 T.a_is_on T.d_is_on ["p", "segment"] (fun vs H Q _ => ∃ (p g a c : Addr) (px py ax ay bx dy : Int), vs = [.ref p, .ref g] ∧ SqT K H p [.int px, .int py] ∧ SegAt K H g a c ax ay bx dy ∧ On px py ∧ Q (.bl (onI ax ay bx dy px py)) H) := by
  refine T.F_is_on.ok sc_is_on (fun vs H Q E h => ?_) (fun cdv A outer s H vs Q E hr h => ?_)
  · obtain ⟨p, g, a, c, px, py, ax, ay, bx, dy, rfl, hp, hg, op, k⟩ := h
    rfl
  · obtain ⟨p, g, a, c, px, py, ax, ay, bx, dy, rfl, hp, hg, op, k⟩ := h
    refine ⟨_, (pss_cons (ps_asg (pv 1) (pg_tup (by rfl) (pgs_cons (pg_name (i := 2) sc_is_on.nd rfl (Or.inl rfl)) (pgs_cons (pg_name (i := 3) sc_is_on.nd rfl (Or.inl rfl)) pgs_nil))))
      (pss_one (ps_ret (pe_and (pe_cmpR op_eq (pe_call (ok_turn_of T TB) (hr.mono (by omega)) rfl T.m_turn_of T.F_turn_of.kp T.b_turn_of .nil pass0 (pa_cons (pv 2) (pa_cons (pv 3) (pa_cons (pv 0) pa_nil)))) pe_int (nomark _)) (pe_one (pe_chain (op_leP hr.units0) (op_leP hr.units0) (pv 2) (pv 0) (pv 3))))))), ?_⟩
    refine ⟨_, rfl, _, _, rfl, hg.g, rfl, _, _, rfl, _, _, rfl, rfl, ?_⟩
    
    refine ⟨_, rfl, _, rfl, _, rfl, _, _, _, _, _, _, _, _, _, rfl, hg.a, hg.c, hp, ⟨hg.oa.sx, hg.oc.sx, hg.oa.sy, hg.oc.sy⟩, rfl, _, rfl, ifD (fun e => ?_) (fun e => ?_)⟩
    · have e : turnI ax ay bx dy px py = 0 := by injection e
      unfold onI at k
      rw [decide_eq_true e, Bool.true_and] at k
      refine ⟨_, rfl, _, rfl, _, _, _, _, _, _, rfl, rfl, hg.a, hp, _, rfl, ifB (fun q => ?_) (fun q => ?_)⟩
      · refine ⟨_, rfl, _, _, _, _, _, _, rfl, rfl, hp, hg.c, ?_⟩
        rw [q, Bool.true_and] at k
        exact k
      · rw [q, Bool.false_and] at k
        exact k
    · have e : turnI ax ay bx dy px py ≠ 0 := fun z => e (by rw [z])
      unfold onI at k
      rw [decide_eq_false e, Bool.false_and] at k
      exact k
theorem ok_ways_around (T : Txt K mg) (TB : TxtB T base w) : FnOk P w K mg base CX0 1 T.a_ways_around T.d_ways_around ["points"] (fun vs H Q _ => ∃ (a : Addr) (zs : List Zp), vs = [.ref a] ∧ LnAt K H a zs ∧ 1 ≤ zs.length ∧ zs.length ≤ 900 ∧ ∀ (l : Addr) (ps : List Addr) H', Same H H' → SqL K H' l (ps.map V.ref) → ps.length = zs.length → (∀ (i : Nat) p u w, ps[i]? = some p → zs[i]? = some u → (zs.drop 1 ++ zs.take 1)[i]? = some w → SqT K H' p [.ref u.1, .ref w.1]) → Q (.ref l) H') := by
  refine T.F_ways_around.ok sc_ways_around (fun vs H Q E h => ?_) (fun cdv A outer s H vs Q E hr h => ?_)
  · obtain ⟨a, zs, rfl, ha, l1, l2, k⟩ := h
    rfl
  · obtain ⟨a, zs, rfl, ha, l1, l2, k⟩ := h
    refine ⟨_, (pss_one (ps_ret (Zl.pe_listZip rfl (by rfl) T.n_list (by rfl) T.n_zip (pa_cons (pv 0) (pa_cons (pe_op op_catA (pe_slice sl_tupA (pv 0) (po_some pe_int) po_none) (pe_slice sl_tupA (pv 0) po_none (po_some pe_int))) pa_nil))))), ?_⟩
    refine ⟨_, rfl, _, rfl, _, rfl, ?_⟩
    refine noPart (slA_of ha.t fun q H2 s2 hq => ?_)
    rw [show ((1 : Int)) = ((1 : Nat) : Int) from rfl, cut_drop, ← List.map_drop] at hq
    refine ⟨_, rfl, _, rfl, ?_⟩
    refine slA_of (tSame s2 ha.t) fun q3 H3 s3 h3 => ?_
    rw [show ((1 : Int)) = ((1 : Nat) : Int) from rfl, cut_take, ← List.map_take] at h3
    have big : 1000 ≤ sizeLine := by decide
    refine catA_of (tSame s3 hq) h3 (by rw [List.length_map, List.length_map, List.length_drop, List.length_take]; omega) fun q4 H4 s4 h4 => ?_
    rw [← List.map_append] at h4
    have s := (s2.trans s3).trans s4
    refine ⟨_, _, _, _, rfl, (ha.same s).t, h4, by rw [List.length_map, List.length_map, List.length_append, List.length_drop, List.length_take]; omega, by rw [List.length_map]; omega, fun S ps H' hl old pairs free => ?_⟩
    refine k S ps _ (same_then (s.trans fun b o e => .inl (old b o e)) free) lHere (by rw [hl, List.length_map]) fun i p u w h1 h2 h3 => ?_
    exact tOver free (SqT.of (pairs i p _ _ h1 (by rw [List.getElem?_map, h2]; rfl) (by rw [List.getElem?_map, h3]; rfl)))
theorem ok_left_turns (T : Txt K mg) (TB : TxtB T base w) : FnOk P w K mg base CX0 2 T.a_left_turns T.d_left_turns ["points"] (fun vs H Q _ => ∃ (l : Addr) (zs : List Zp), vs = [.ref l] ∧ SqL K H l (refs zs) ∧ Pts K H zs ∧ (∀ z ∈ zs, On z.2.1 z.2.2) ∧ zs.length ≤ 100 ∧ ∀ p (ws : List Zp) H', Same H H' → H' p = some (.lst (refs ws)) → (∀ w ∈ ws, w ∈ zs) → crd ws = (chainS (crd zs).reverse).reverse → Q (.ref p) H') := by
  refine T.F_left_turns.ok sc_left_turns (fun vs H Q E h => ?_) (fun cdv A outer s H vs Q E hr h => ?_)
  · obtain ⟨l, zs, rfl, hl, hp, ho, lz, k⟩ := h
    rfl
  · obtain ⟨l, zs, rfl, hl, hp, ho, lz, k⟩ := h
    refine ⟨_, (pss_cons (ps_set (i := 1) sc_left_turns.nd rfl (Or.inl rfl) (pe_lst pa_nil))
      (pss_cons (ps_for PassesOwn.never rfl (pi_list (pv 0)) (pg_name (i := 2) sc_left_turns.nd rfl (Or.inl rfl))
        (pss_cons (ps_while PassesOwn.never (PW.pt (pw_and (pt_cmpR op_ge (pe_callB call_len (by rfl) T.n_len (by decide +kernel) (pa_cons (pv 1) pa_nil)) pe_int (nomark _)) (pw_and1 (pt_cmpR op_le (pe_call (ok_turn_of T TB) (hr.mono (by omega)) rfl T.m_turn_of T.F_turn_of.kp T.b_turn_of .nil pass0 (pa_cons (pe_ix (r := rIxL K) ix_list (pv 1) (pe_un un_neg pe_int) (fun _ _ => rfl)) (pa_cons (pe_ix (r := rIxL K) ix_list (pv 1) (pe_un un_neg pe_int) (fun _ _ => rfl)) (pa_cons (pv 2) pa_nil)))) pe_int (nomark _)))))
          (pss_one (ps_expr (pe_bm0 PySem.F.plainAttrs_list PySem.F.slot_list_pop PySem.F.type_list_pop mt_pop (pv 1)))))
        (pss_one (ps_expr (pe_bm PySem.F.plainAttrs_list PySem.F.slot_list_append PySem.F.type_list_append mt_append (pv 1) (pa_cons (pv 2) pa_nil))))))
      (pss_one (ps_ret (pv 1))))), ?_⟩
    refine ⟨small rfl, fun D hD => ?_⟩
    have hl1 := Same.seq (same_new (o := HO.lst []) hD) hl
    refine ⟨_, rfl, _, rfl, ⟨_, hl1⟩, for_it (walk_list (xs := refs zs)) (fun i σ H' => (∃ o, σ = [some (.ref l), some (.ref D), o]) ∧ Same H H' ∧ ∃ st : List Zp, H' D = some (.lst (refs st.reverse)) ∧ (∀ w ∈ st, w ∈ zs) ∧ st.length ≤ i ∧ crd st = chainS (crd (zs.take i)).reverse) ⟨⟨_, rfl⟩, same_new hD, [], upd_same, (fun w h => by cases h), Nat.le_refl _, rfl⟩ (fun i σ H' _ q => q.2.1.seq hl) ?_ ?_⟩
    · rintro i x σ H1 H2 hi ⟨⟨o, rfl⟩, s1, st, hD1, sub, lst_, ec⟩ ⟨rfl, hx⟩
      rw [List.getElem?_map] at hx
      obtain ⟨z, hz, rfl⟩ := Option.map_eq_some_iff.mp hx
      have mz := List.mem_of_getElem? hz
      have oz := ho z mz
      have hi : i < zs.length := (List.getElem?_eq_some_iff.mp hz).1
      refine ⟨fun m σ' H' => σ' = [some (.ref l), some (.ref D), some (.ref z.1)] ∧ Same H H' ∧ ∃ st' : List Zp, H' D = some (.lst (refs st'.reverse)) ∧ (∀ w ∈ st', w ∈ zs) ∧ popR z.2 (crd st') = popR z.2 (crd st) ∧ st'.length ≤ i ∧ st'.length = m, ⟨st.length, rfl, s1, st, hD1, sub, rfl, lst_, rfl⟩, ?_⟩
      rintro m σ' H' ⟨rfl, s2, st', hD2, sub', epop, lst', rfl⟩
      have done : popR z.2 (crd st') = crd st' → crd (z :: st') = chainS (crd (zs.take (i + 1))).reverse := fun e => by
        rw [List.take_succ, hz, crd_app, List.reverse_append]
        show z.2 :: crd st' = z.2 :: popR z.2 (chainS (crd (zs.take i)).reverse)
        rw [← ec, ← epop, e]
      have app : ∀ H3, Same H' H3 → H3 D = some (.lst (refs st'.reverse)) → popR z.2 (crd st') = crd st' → (∃ o, [some (V.ref l), some (V.ref D), some (V.ref z.1)] = [some (V.ref l), some (V.ref D), o]) ∧ Same H (upd H3 D (.lst (refs st'.reverse ++ [.ref z.1]))) ∧ ∃ st : List Zp, (upd H3 D (.lst (refs st'.reverse ++ [.ref z.1]))) D = some (.lst (refs st.reverse)) ∧ (∀ w ∈ st, w ∈ zs) ∧ st.length ≤ i + 1 ∧ crd st = chainS (crd (zs.take (i + 1))).reverse := fun H3 s3 h3 e => ⟨⟨_, rfl⟩, (s2.trans s3).put hD, z :: st', by rw [upd_same, refs_back], fun w hw => (List.mem_cons.mp hw).elim (fun e => e ▸ mz) (sub' w), by rw [List.length_cons]; omega, done e⟩
      have ln : (refs st'.reverse).length = st'.length := by rw [refs_len, List.length_reverse]
      refine ⟨_, rfl, _, _, rfl, .inl ⟨_, SqL.of hD2, rfl⟩, _, _, rfl, rfl, _, rfl, ifD (fun e => ?_) (fun e => ?_)⟩
      rotate_left
      · have e : ¬ (2 ≤ st'.length) := by rw [ln] at e; omega
        have ep : popR z.2 (crd st') = crd st' := by
          match st', e with
          | [], _ => rfl
          | [_], _ => rfl
          | _ :: _ :: _, e => exact absurd (by simp) e
        exact ⟨_, rfl, tyL hD2, _, rfl, _, _, _, rfl, rfl, hD2, by rw [ln]; exact line_of (by omega), app H' (Same.refl _) hD2 ep⟩
      match st', e, hD2, sub', epop, lst', app, ln with
      | [], e, _, _, _, _, _, _ => exact absurd e (by decide)
      | [_], e, _, _, _, _, _, ln => exact absurd e (by rw [ln]; simp)
      | c :: b :: r, e, hD2, sub', epop, lst', app, ln =>
        have mc := sub' c (by simp)
        have mb := sub' b (by simp)
        have hp2 := hp.same s2
        have ob := ho b mb
        have oc := ho c mc
        refine ⟨_, rfl, _, rfl, _, _, _, _, rfl, rfl, SqL.of hD2, at_back2 c b r, _, rfl, _, rfl, _, _, _, _, rfl, rfl, SqL.of hD2, at_back1 c (b :: r), _, rfl, _, _, _, _, _, _, _, _, _, rfl, hp2 b mb, hp2 c mc, hp2 z mz, ⟨ob.sx, oc.sx, ob.sy, oc.sy⟩, _, _, rfl, rfl, _, rfl, ifD (fun e2 => ?_) (fun e2 => ?_)⟩
        · have e2 : tn b.2 c.2 z.2 ≤ 0 := e2
          have ep : popR z.2 (crd (c :: b :: r)) = popR z.2 (crd (b :: r)) := if_pos e2
          refine ⟨fun σ' H3 => σ' = [some (.ref l), some (.ref D), some (.ref z.1)] ∧ Same H H3 ∧ H3 D = some (.lst (refs (b :: r).reverse)), ?_, ?_⟩
          · rintro σ' H3 ⟨rfl, s3, h3⟩
            exact ⟨(b :: r).length, by simp, rfl, s3, b :: r, h3, fun w hw => sub' w (List.mem_cons_of_mem _ hw), by rw [← ep]; exact epop, by rw [List.length_cons] at lst'; omega, rfl⟩
          · exact ⟨_, rfl, tyL hD2, _, _, _, rfl, rfl, hD2, last_back c (b :: r), rfl, s2.put hD, by rw [upd_same, drop_back]⟩
        · have e2 : ¬ tn b.2 c.2 z.2 ≤ 0 := e2
          have ep : popR z.2 (crd (c :: b :: r)) = crd (c :: b :: r) := if_neg e2
          exact ⟨_, rfl, tyL hD2, _, rfl, _, _, _, rfl, rfl, hD2, by rw [ln]; exact line_of (by omega), app H' (Same.refl _) hD2 ep⟩
    · rintro σ H1 ⟨⟨o, rfl⟩, s1, st, hD1, sub, lst_, ec⟩
      rw [List.take_of_length_le (by rw [refs_len]; exact Nat.le_refl _)] at ec
      refine ⟨_, rfl, k D st.reverse H1 s1 hD1 (fun w h => sub w (List.mem_reverse.mp h)) ?_⟩
      rw [← ec]
      exact List.map_reverse
theorem ok_hull_of (T : Txt K mg) (TB : TxtB T base w) : FnOk P w K mg base CX0 8 T.a_hull_of T.d_hull_of ["points"] (fun vs H Q _ => ∃ (a : Addr) (zs : List Zp), vs = [.ref a] ∧ LnAt K H a zs ∧ 1 ≤ zs.length ∧ zs.length ≤ 60 ∧ Tbs T.ts H ∧ ∀ (c : Addr) (ws : List Zp) H', LnAt K H' c ws → Wrap (crd zs) (crd ws) → Same H H' → Q (.ref c) H') := by
  refine T.F_hull_of.ok sc_hull_of (fun vs H Q E h => ?_) (fun cdv A outer s H vs Q E hr h => ?_)
  · obtain ⟨a, zs, rfl, ha, l1, lm, tb, k⟩ := h
    rfl
  · obtain ⟨a, zs, rfl, ha, l1, lm, tb, k⟩ := h
    refine ⟨_, (pss_cons (ps_expr (pe_call (ok_need T TB) (hr.mono (by omega)) rfl T.m_need T.F_need.kp T.b_need .nil pass0 (pa_cons (pe_call (ok_are_points T TB) (hr.mono (by omega)) rfl T.m_are_points T.F_are_points.kp T.b_are_points .nil pass0 (pa_cons (pv 0) (pa_cons pe_int (pa_cons (pe_gI T.c_MOST_OF_HULL) pa_nil)))) (pa_cons pe_str pa_nil))))
      (pss_cons (ps_set (i := 1) sc_hull_of.nd rfl (Or.inl rfl) (pe_callB (SetP.cr_sortedPK (P := P) (w := w) rfl rfl rfl hr.units) (by rfl) T.n_sorted (by decide +kernel) (pa_cons (pe_callTy (SetP.cr_setPK (P := P) (w := w) rfl rfl rfl hr.units) (by rfl) T.n_set (by decide +kernel) (pa_cons (pv 0) pa_nil)) pa_nil)))
      (pss_cons (ps_if (pt_cmpR op_eq (pe_callB call_len (by rfl) T.n_len (by decide +kernel) (pa_cons (pv 1) pa_nil)) pe_int (nomark _))
        (pss_one (ps_ret (pe_tup (pa_cons (pe_ix (r := rIxL K) ix_list (pv 1) pe_int (fun _ _ => rfl)) pa_nil))))
        pss_nil)
      (pss_cons (ps_set (i := 2) sc_hull_of.nd rfl (Or.inl rfl) (pe_call (ok_left_turns T TB) (hr.mono (by omega)) rfl T.m_left_turns T.F_left_turns.kp T.b_left_turns .nil pass0 (pa_cons (pv 1) pa_nil)))
      (pss_cons (ps_set (i := 3) sc_hull_of.nd rfl (Or.inl rfl) (pe_call (ok_left_turns T TB) (hr.mono (by omega)) rfl T.m_left_turns T.F_left_turns.kp T.b_left_turns .nil pass0 (pa_cons (pe_revL (pv 1)) pa_nil)))
      (pss_one (ps_ret (pe_callTy call_tuple_ofN (by rfl) T.n_tuple (by decide +kernel) (pa_cons (pe_op op_cat (pe_slice sl_list (pv 2) po_none (po_some (pe_un un_neg pe_int))) (pe_slice sl_list (pv 3) po_none (po_some (pe_un un_neg pe_int)))) pa_nil))))))))), ?_⟩
    refine ⟨_, rfl, _, _, _, _, rfl, ha.av (by omega), tb, fun H1 s1 => ⟨_, _, rfl, by rw [decide_eq_true (by omega), decide_eq_true (by omega)]; rfl, ?_⟩⟩
    have ha := ha.same s1
    refine ⟨_, rfl, a, zs, rfl, ha.t, ha.p, by omega, fun p bs hp hb hz => ?_⟩
    have sp := same_new (o := L2.SetTO P w p (bs.map SetP.row2)) hp
    have ha2 := ha.same sp
    have pb : Pts K _ bs := fun b mb => ha2.p b (hb b mb)
    refine ⟨p, bs, rfl, upd_same, pb, fun q cs perm nd few hq => ?_⟩
    obtain ⟨ms, hms⟩ : ∃ ms, cs.mergeSort (fun p q : Pn => decide (p.2.1 < q.2.1 ∨ (p.2.1 = q.2.1 ∧ p.2.2 ≤ q.2.2))) = ms := ⟨_, rfl⟩
    have asc := sorted_asc nd
    have pm := sortP_perm cs
    rw [hms] at asc pm ⊢
    have sub : ∀ z ∈ ms, z ∈ zs := fun z hz' => hb z (perm.mem_iff.mp (pm.mem_iff.mp hz'))
    have iff_ : ∀ x, x ∈ crd ms ↔ x ∈ crd zs := fun x => by
      constructor
      · intro h
        obtain ⟨z, mz, rfl⟩ := List.mem_map.mp h
        exact mem_crd (sub z mz)
      · intro h
        obtain ⟨z, mz, rfl⟩ := List.mem_map.mp h
        obtain ⟨b, mb, eb⟩ := List.mem_map.mp (hz z mz)
        rw [← eb]
        exact mem_crd (pm.mem_iff.mpr (perm.mem_iff.mpr mb))
    have nodup_ := sorted_nodup asc
    have fewm : ms.length < 64 := by rw [pm.length_eq]; exact few
    have sq := same_new (o := HO.lst (ms.map pnV)) hq
    have s13 := (s1.trans sp).trans sq
    have ha3 := ha2.same sq
    have hms0 : (upd (upd H1 p (L2.SetTO P w p (bs.map SetP.row2))) q (.lst (ms.map pnV))) q = some (.lst (refs ms)) := upd_same
    generalize upd (upd H1 p (L2.SetTO P w p (bs.map SetP.row2))) q (.lst (ms.map pnV)) = G at sq s13 ha3 hms0 ⊢
    have hms1 : SqL K G q (refs ms) := SqL.of hms0
    have pms : Pts K G ms := fun z mz => ha3.p z (sub z mz)
    have oms : ∀ z ∈ ms, On z.2.1 z.2.2 := fun z mz => ha3.on z (sub z mz)
    have ne0 : ms ≠ [] := fun e => by
      obtain ⟨z, mz⟩ : ∃ z, z ∈ zs := ⟨_, List.getElem_mem (show 0 < zs.length by omega)⟩
      have := (iff_ z.2).mpr (mem_crd mz)
      rw [e] at this
      cases this
    refine ⟨_, rfl, _, _, rfl, .inl ⟨_, hms1, rfl⟩, rfl, _, rfl, ifD (fun e => ?_) (fun e => ?_)⟩
    · have e : ms.length = 1 := by
        injection e with e
        rw [refs_len] at e
        omega
      obtain ⟨m, rfl⟩ : ∃ m, ms = [m] := by
        match ms, e with
        | [m], _ => exact ⟨m, rfl⟩
      refine ⟨_, rfl, _, _, _, _, rfl, rfl, hms1, at0, small rfl, fun c hc => ?_⟩
      exact k c [m] _ ⟨tHere, fun z mz => tOver hc (pms z mz), oms⟩ ((wrap_one m.2).of nodup_ iff_) (s13.trans (same_new hc))
    have two : 2 ≤ (crd ms).length := by
      have e : ms.length ≠ 1 := fun z => e (by rw [refs_len, z]; rfl)
      rw [List.length_map]
      cases ms with
      | nil => exact absurd rfl ne0
      | cons x r => rw [List.length_cons] at e ⊢; omega
    have WW := (wrap_of asc two).of nodup_ iff_
    clear asc nodup_ iff_ pm perm nd
    refine ⟨_, rfl, _, ms, rfl, hms1, pms, oms, by omega, fun d1_ ws H2 s2 hd1 sub1 e1 => ?_⟩
    have hms2 := Same.seq s2 hms1
    have pms2 : Pts K H2 ms := pms.same s2
    refine ⟨_, rfl, _, _, rfl, hms2, fun r hr => ?_⟩
    have sr := same_new (o := HO.lst (refs ms).reverse) hr
    have er : refs ms.reverse = (refs ms).reverse := List.map_reverse
    refine ⟨_, ms.reverse, rfl, by rw [er]; exact lHere, fun z mz => (pms2.same sr) z (List.mem_reverse.mp mz), fun z mz => oms z (List.mem_reverse.mp mz), by rw [List.length_reverse]; omega, fun d2_ vs H3 s3 hd2 sub2 e2 => ?_⟩
    have hd1 := s3.get (sr.get hd1)
    rw [crd_rev, List.reverse_reverse] at e2
    have pms3 : Pts K H3 ms := (pms2.same sr).same s3
    have s33 := ((s13.trans s2).trans sr).trans s3
    clear hms1 hms2 ha3 pms2 pms
    refine ⟨_, rfl, _, rfl, _, rfl, ?_⟩
    refine ⟨_, _, rfl, SqL.of hd1, fun c1 w1 => ?_⟩
    rw [cut_m1, refs_init]
    have hd2 := rOver (o := HO.lst (refs ws.dropLast)) w1 hd2
    have lw := chain_len e1
    have lv := chain_len e2
    rw [List.length_reverse, List.length_map] at lw
    rw [List.length_map] at lv
    have big : 1000 ≤ sizeLine := by decide
    refine ⟨_, rfl, _, rfl, _, rfl, ?_⟩
    refine ⟨_, _, rfl, SqL.of hd2, fun c2 w2 => ?_⟩
    rw [cut_m1, refs_init]
    have h1 : upd (upd H3 c1 (.lst (refs ws.dropLast))) c2 (.lst (refs vs.dropLast)) c1 = some (.lst (refs ws.dropLast)) := rOver w2 upd_same
    refine ⟨_, _, _, _, rfl, rfl, h1, upd_same, by rw [refs_len, refs_len, List.length_dropLast, List.length_dropLast]; omega, fun r2 wr => ?_⟩
    rw [← refs_app]
    have sE := ((same_new (o := HO.lst (refs ws.dropLast)) w1).trans (same_new (o := HO.lst (refs vs.dropLast)) w2)).trans (same_new (o := HO.lst (refs (ws.dropLast ++ vs.dropLast))) wr)
    refine ⟨_, _, rfl, SqL.of upd_same, fun t o ht ho => ?_⟩
    have mem : ∀ z ∈ ws.dropLast ++ vs.dropLast, z ∈ ms := fun z hz => (List.mem_append.mp hz).elim (fun h => sub1 z ((List.dropLast_sublist _).subset h)) fun h => List.mem_reverse.mp (sub2 z ((List.dropLast_sublist _).subset h))
    refine k t (ws.dropLast ++ vs.dropLast) _ ⟨(TN.here ho).t, fun z hz => ((pms3.same sE).over ht) z (mem z hz), fun z hz => oms z (mem z hz)⟩ ?_ ((s33.trans sE).trans (same_new ht))
    rw [crd_app, crd_init, crd_init, e1, e2]
    exact WW
theorem ok_are_corners (T : Txt K mg) (TB : TxtB T base w) : FnOk P w K mg base CX0 7 T.a_are_corners T.d_are_corners ["points", "value"] (fun vs H Q _ => ∃ (a : Addr) (zs : List Zp) (x : V), vs = [.ref a, x] ∧ LnAt K H a zs ∧ 1 ≤ zs.length ∧ zs.length ≤ 60 ∧ Tbs T.ts H ∧ ((∃ (c : Addr) (ws : List Zp), x = .ref c ∧ LnAt K H c ws ∧ ws.length ≤ 63 ∧ ∀ (b : Bool) H', Same H H' → (b = true ↔ CornP (crd zs) ws) → Q (.bl b) H') ∨ (∃ n, Ty K H x n ∧ n ≠ "tuple" ∧ ∀ H', Same H H' → Q (.bl false) H'))) := by
  refine T.F_are_corners.ok sc_are_corners (fun vs H Q E h => ?_) (fun A outer s H vs Q E hr h => ?_)
  · obtain ⟨a, zs, x, rfl, ha, l1, l60, tb, hx⟩ := h
    rfl
  · obtain ⟨a, zs, x, rfl, ha, l1, l60, tb, hx⟩ := h
    refine ⟨_, (pss_cons (ps_if (PW.pt (pw_or (pt_not (pt_val (pe_callB call_isi (by rfl) T.n_isinstance (by decide +kernel) (pa_cons (pv 1) (pa_cons (pe_bltn (v := .ty "tuple") (by rfl) T.n_tuple (by decide +kernel) rfl) pa_nil))))) (pw_or1 (pt_not (pt_chain op_le op_le pe_int (pe_callB call_len (by rfl) T.n_len (by decide +kernel) (pa_cons (pv 1) pa_nil)) (pe_callB call_len (by rfl) T.n_len (by decide +kernel) (pa_cons (pv 0) pa_nil)))))))
        (pss_one (ps_ret pe_bl))
        pss_nil)
      (pss_cons (ps_if (pt_not (pt_val (Gx.pe_gen false (own := [("corner", 2)]) (g := gName 2) (tt := tYes) (x := "corner") (k := 3) rfl (hr.mono (by omega)) rfl sc_are_corners.nd rfl T.n_all TB.t_are_corners rfl (Gx.genS_by rfl rfl (by decide +kernel) rfl rfl (by rfl)) (blkOk_by (own := [("corner", 2)]) (N := N_are_corners) (sc := defScope s_are_corners) (by decide +kernel)) (pi_tup (pv 1)) (fun _ _ _ _ _ _ _ hB => (pg_name (i := 2) sc_are_corners.nd rfl (Or.inl rfl))) (fun _ _ _ _ _ _ _ hB => pts_nil) (fun _ _ _ _ _ _ _ hB => (pe_and (pe_call (ok_is_point T TB) (hB.mono (by omega)) rfl T.m_is_point T.F_is_point.kp T.b_is_point .nil pass0 (pa_cons (pv 2) pa_nil)) (pe_one (pe_cmpR (op_inPt (K := K) rfl hB.units65) (pv 2) (pv 0) (by rfl))))) (fun _ => rfl))))
        (pss_one (ps_ret pe_bl))
        pss_nil)
      (pss_one (ps_ret (pe_and (pe_cmpR op_eq (pe_callB (SetP.cr_lenPK (K := K) (P := P) (w := w) rfl rfl rfl) (by rfl) T.n_len (by decide +kernel) (pa_cons (pe_callTy (SetP.cr_setPK (P := P) (w := w) rfl rfl rfl hr.units) (by rfl) T.n_set (by decide +kernel) (pa_cons (pv 1) pa_nil)) pa_nil)) (pe_callB call_len (by rfl) T.n_len (by decide +kernel) (pa_cons (pv 1) pa_nil)) (nomark _)) (pe_one (pe_cmpR (op_eqP hr.units) (pe_ix (r := rIxT K) ix_tup (pv 1) pe_int (fun _ _ => rfl)) (pe_callB (cr_minT rfl hr.units) (by rfl) T.n_min (by decide +kernel) (pa_cons (pv 1) pa_nil)) (nomark _)))))))), ?_⟩
    rcases hx with ⟨c, ws, rfl, hc, lw, k⟩ | ⟨n, ty, hn, k⟩
    rotate_left
    · refine ⟨_, rfl, _, _, _, _, _, rfl, .ty _, ty.x, isaN ty.six (by simp [My.six]), _, rfl, ?_⟩
      have e : (n == "tuple" || n == "bool" && "tuple" == "int") = false := by cases ty <;> first | rfl | exact absurd rfl hn
      rw [e]
      exact (if_pos rfl).mpr ((if_pos rfl).mpr (k _ (Same.refl _)))
    have ty : Ty K H (.ref c) "tuple" := .tup hc.t
    have lr : (refs ws).length = ws.length := List.length_map _
    have lz : (refs zs).length = zs.length := List.length_map _
    have no : ∀ H', Same H H' → ¬ CornP (crd zs) ws → Q (.bl false) H' := fun H' s n => k false H' s ⟨(fun z => by cases z), fun z => absurd z n⟩
    refine ⟨_, rfl, _, _, _, _, _, rfl, .ty _, ty.x, isaN ty.six (by simp [My.six]), _, rfl, ?_⟩
    refine (if_neg (by decide)).mpr ?_
    refine ⟨_, rfl, _, _, rfl, .inr ⟨_, hc.t, rfl⟩, _, _, rfl, rfl, ?_⟩
    refine ⟨_, rfl, ?_⟩
    have ec : (crd zs).length = zs.length := List.length_map _
    by_cases c1 : 1 ≤ ws.length
    rotate_left
    · refine (if_neg (by rw [decide_eq_false (show ¬ ((1 : Int) ≤ ((refs ws).length : Int)) by omega)]; decide)).mpr ?_
      exact ⟨_, rfl, (if_pos rfl).mpr (no _ (Same.refl _) fun z => c1 z.l1)⟩
    refine (if_pos (decide_eq_true (show (1 : Int) ≤ ((refs ws).length : Int) by omega))).mpr ?_
    refine ⟨_, rfl, _, _, rfl, .inr ⟨_, ha.t, rfl⟩, _, _, rfl, rfl, _, rfl, ?_⟩
    by_cases c2 : ws.length ≤ zs.length
    rotate_left
    · exact (if_pos (by rw [decide_eq_false (show ¬ (((refs ws).length : Int) ≤ ((refs zs).length : Int)) by omega)]; rfl)).mpr (no _ (Same.refl _) fun z => c2 (by rw [← ec]; exact z.few))
    refine (if_neg (by rw [decide_eq_true (show ((refs ws).length : Int) ≤ ((refs zs).length : Int) by omega)]; decide)).mpr ?_
    try unfold tNext
    try dsimp only
    refine Gx.step_ngen fun Q' hQ => ?_
    refine ⟨_, rfl, _, rfl, ⟨_, hc.t⟩, tb _ (by simp [Txt.ts]), fun H2 g2 => ?_⟩
    have s2 := same_tab (tb _ (by simp [Txt.ts])) g2
    refine Gx.gen_walk (walk_tup (K := K) (a := c) (xs := refs ws)) (fun i H' => Same H H' ∧ ∀ z ∈ ws.take i, z.2 ∈ cds zs) ⟨s2, fun z h => by cases h⟩ (fun i H' h => tSame h.1 hc.t) ?_ ?_
    · rintro i x H3 H4 hi ⟨s3, hall⟩ ⟨rfl, hxi⟩
      rw [List.getElem?_map] at hxi
      obtain ⟨z, g1, rfl⟩ := Option.map_eq_some_iff.mp hxi
      have mz := List.mem_of_getElem? g1
      have hz := tSame s3 (hc.p z mz)
      refine ⟨rfl, yesI ?_⟩
      refine iteT ?_
      refine ⟨_, rfl, _, true, rfl, .pt hz (hc.on z mz), ⟨_, rfl, ?_⟩⟩
      refine iteT ?_
      refine ⟨_, rfl, _, rfl, z.1, a, z.2, zs, rfl, rfl, hz, ⟨.inr (tSame s3 ha.t), ha.p.same s3⟩, ?_⟩
      refine ⟨_, rfl, ?_⟩
      by_cases q : z.2 ∈ cds zs
      · refine (if_neg (by rw [decide_eq_true q]; decide)).mpr ⟨s3, fun v hv => ?_⟩
        rw [List.take_succ, g1] at hv
        rcases List.mem_append.mp hv with h | h
        · exact hall v h
        · rw [List.mem_singleton.mp (show v ∈ [z] from h)]
          exact q
      · refine (if_pos (decide_eq_false q)).mpr ?_
        rw [hQ]
        exact ⟨_, rfl, iteT (no _ s3 fun y => q (y.sub z.2 (List.mem_map.mpr ⟨z, mz, rfl⟩)))⟩
    rintro H3 ⟨s3, hall⟩
    rw [hQ]
    refine ⟨_, rfl, iteF ?_⟩
    rw [lr, List.take_length] at hall
    have hc3 := hc.same s3
    refine ⟨_, rfl, _, ws, rfl, hc3.t, hc3.p, by omega, fun p bs hp sub cov => ?_⟩
    have e2 := same_new (o := SetTO P w p (bs.map SetP.row2)) hp
    refine ⟨_, _, rfl, upd_same, fun b hb => tOver hp (hc3.p b (sub b hb)), fun nd => ?_⟩
    have s4 := s3.trans e2
    have mem : ∀ x, x ∈ (bs.map fun b => b.2) ↔ x ∈ crd ws := fun x => ⟨fun h => by obtain ⟨b, hb, rfl⟩ := List.mem_map.mp h; exact List.mem_map.mpr ⟨b, sub b hb, rfl⟩, fun h => by obtain ⟨z, hz, rfl⟩ := List.mem_map.mp h; exact cov z hz⟩
    have lw2 : (crd ws).length = ws.length := List.length_map _
    have hsub : ∀ x ∈ crd ws, x ∈ crd zs := fun x hx => by obtain ⟨z, hz, rfl⟩ := List.mem_map.mp hx; exact hall z hz
    refine ⟨_, rfl, _, _, rfl, .inr ⟨_, (hc3.same e2).t, rfl⟩, rfl, _, rfl, ifD (fun e1 => ?_) (fun e1 => ?_)⟩
    rotate_left
    · refine no _ s4 fun y => e1 ?_
      have := nd_same nd y.nd mem
      rw [List.length_map, lw2] at this
      rw [lr, this]
    have el : ws.length = bs.length := by
      have e1 : V.int (bs.length : Int) = V.int ((refs ws).length : Int) := e1
      injection e1 with e1
      omega
    have hc4 := hc.same s4
    obtain ⟨z0, h0⟩ : ∃ z, ws[0]? = some z := ⟨_, List.getElem?_eq_getElem (by omega)⟩
    have m0 := List.mem_of_getElem? h0
    have p0 : pt ws 0 = z0.2 := pt_at h0
    refine ⟨_, rfl, _, _, _, _, rfl, rfl, hc4.t, atI_nat (j := 0) (by rw [List.getElem?_map, h0]; rfl), _, rfl, _, _, rfl, .inl hc4.t, hc4.p, by omega, fun z mz hz => ?_⟩
    refine ⟨_, _, _, _, _, _, rfl, rfl, hc4.p z0 m0, hc4.p z mz, ?_⟩
    refine k _ _ s4 ?_
    rw [decide_eq_true_eq]
    constructor
    · rintro ⟨z1, z2⟩
      exact ⟨c1, by rw [ec]; exact c2, hsub, nd_back _ _ nd (fun x h => (mem x).mp h) (by rw [lw2, List.length_map]; omega), fun x hx => by obtain ⟨w, hw, rfl⟩ := List.mem_map.mp hx; rw [p0, show z0.2 = z.2 from pt_eq z1 z2]; exact hz w hw⟩
    · intro R
      have e := lt_tri (hz z0 m0) (by have := R.least z.2 (List.mem_map.mpr ⟨z, mz, rfl⟩); rw [p0] at this; exact this)
      rw [e]
      exact ⟨rfl, rfl⟩
theorem ok_turns_left (T : Txt K mg) (TB : TxtB T base w) : FnOk P w K mg base CX0 5 T.a_turns_left T.d_turns_left ["corners"] (fun vs H Q _ => ∃ (a : Addr) (ws : List Zp), vs = [.ref a] ∧ LnAt K H a ws ∧ 3 ≤ ws.length ∧ ws.length ≤ 60 ∧ Tbs T.ts H ∧ ∀ (b : Bool) H', Same H H' → (b = true ↔ (∀ i, i < ws.length → 0 < tn (pt ws i) (pt ws (i + 1)) (pt ws (i + 2))) ∧ ∀ i, 1 ≤ i → i + 1 < ws.length → 0 < tn (pt ws 0) (pt ws i) (pt ws (i + 1))) → Q (.bl b) H') := by
  refine T.F_turns_left.ok sc_turns_left (fun vs H Q E h => ?_) (fun A outer s H vs Q E hr h => ?_)
  · obtain ⟨a, ws, rfl, ha, l3, l60, tb, k⟩ := h
    rfl
  · obtain ⟨a, ws, rfl, ha, l3, l60, tb, k⟩ := h
    refine ⟨_, (pss_cons (ps_set (i := 1) sc_turns_left.nd rfl (Or.inl rfl) (pe_op op_catA (pv 0) (pe_slice sl_tupA (pv 0) po_none (po_some pe_int))))
      (pss_cons (ps_if (pt_not (pt_val (Gx.pe_gen false (own := [("a", 4), ("b", 2), ("c", 3)]) (g := gTup K 3 (gCons (gName 4) (gCons (gName 2) (gCons (gName 3) gNil)))) (tt := tYes) (x := "a") (k := 1) rfl (hr.mono (by omega)) rfl sc_turns_left.nd rfl T.n_all TB.t_turns_left rfl (Gx.genS_by rfl rfl (by decide +kernel) rfl rfl (by rfl)) (blkOk_by (own := [("a", 4), ("b", 2), ("c", 3)]) (N := N_turns_left) (sc := defScope s_turns_left) (by decide +kernel)) (pi_zip3 rfl T.n_zip (pa_cons (pv 1) (pa_cons (pe_slice sl_tupA (pv 1) (po_some pe_int) po_none) (pa_cons (pe_slice sl_tupA (pv 1) (po_some pe_int) po_none) pa_nil)))) (fun _ _ _ _ _ _ _ hB => (pg_tup (by rfl) (pgs_cons (pg_name (i := 4) sc_turns_left.nd rfl (Or.inl rfl)) (pgs_cons (pg_name (i := 2) sc_turns_left.nd rfl (Or.inl rfl)) (pgs_cons (pg_name (i := 3) sc_turns_left.nd rfl (Or.inl rfl)) pgs_nil))))) (fun _ _ _ _ _ _ _ hB => pts_nil) (fun _ _ _ _ _ _ _ hB => (pe_cmpR op_gt (pe_call (ok_turn_of T TB) (hB.mono (by omega)) rfl T.m_turn_of T.F_turn_of.kp T.b_turn_of .nil pass0 (pa_cons (pv 4) (pa_cons (pv 2) (pa_cons (pv 3) pa_nil)))) pe_int (nomark _))) (fun _ => rfl))))
        (pss_one (ps_ret pe_bl))
        pss_nil)
      (pss_one (ps_ret (Gx.pe_gen false (own := [("b", 2), ("c", 3)]) (g := gTup K 2 (gCons (gName 2) (gCons (gName 3) gNil))) (tt := tYes) (x := "b") (k := 1) rfl (hr.mono (by omega)) rfl sc_turns_left.nd rfl T.n_all TB.t_turns_left rfl (Gx.genS_by rfl rfl (by decide +kernel) rfl rfl (by rfl)) (blkOk_by (own := [("b", 2), ("c", 3)]) (N := N_turns_left) (sc := defScope s_turns_left) (by decide +kernel)) (RZ.pi_zipA rfl T.n_zip (pa_cons (pe_slice sl_tupA (pv 0) (po_some pe_int) po_none) (pa_cons (pe_slice sl_tupA (pv 0) (po_some pe_int) po_none) pa_nil))) (fun _ _ _ _ _ _ _ hB => (pg_tup (by rfl) (pgs_cons (pg_name (i := 2) sc_turns_left.nd rfl (Or.inl rfl)) (pgs_cons (pg_name (i := 3) sc_turns_left.nd rfl (Or.inl rfl)) pgs_nil)))) (fun _ _ _ _ _ _ _ hB => pts_nil) (fun _ _ _ _ _ _ _ hB => (pe_cmpR op_gt (pe_call (ok_turn_of T TB) (hB.mono (by omega)) rfl T.m_turn_of T.F_turn_of.kp T.b_turn_of .nil pass0 (pa_cons (pe_ix (r := rIxT K) ix_tup (pv 0) pe_int (fun _ _ => rfl)) (pa_cons (pv 2) (pa_cons (pv 3) pa_nil)))) pe_int (nomark _))) (fun _ => rfl)))))), ?_⟩
    refine ⟨_, rfl, _, rfl, _, rfl, ?_⟩
    refine slA_of ha.t fun q1 H1 s1 h1 => ?_
    rw [show ((2 : Int)) = ((2 : Nat) : Int) from rfl, cut_take, refs_take] at h1
    refine catA_of (tSame s1 ha.t) h1 (by rw [refs_len, refs_len, List.length_take]; exact Nat.le_of_lt (line_of (by omega))) fun q2 H2 s2 h2 => ?_
    rw [← refs_app] at h2
    have s12 := s1.trans s2
    have hr2 : LnAt K H2 q2 (ws ++ ws.take 2) := (ha.same s12).sub (fun z hz => (List.mem_append.mp hz).elim id List.mem_of_mem_take) h2
    have tb := tb.same s12
    dsimp only [gName]
    refine Gx.step_ngen fun Q' hQ => ?_
    have lr : (ws ++ ws.take 2).length = ws.length + 2 := by rw [List.length_append, List.length_take]; omega
    have row : ∀ {j : Nat} {z : Zp}, (ws ++ ws.take 2)[j]? = some z → z.2 = pt ws j ∧ z ∈ ws := fun {j z} h => by
      by_cases c : j < ws.length
      · rw [List.getElem?_append_left c] at h
        exact ⟨(pt_at h).symm, List.mem_of_getElem? h⟩
      · rw [List.getElem?_append_right (by omega)] at h
        have m := List.mem_of_mem_take (List.mem_of_getElem? h)
        rw [List.getElem?_take] at h
        split at h
        · refine ⟨?_, m⟩
          rw [← pt_at h, ← pt_add (j - ws.length), show j - ws.length + ws.length = j by omega]
        · cases h
    have no : ∀ H', Same H H' → ¬ ((∀ i, i < ws.length → 0 < tn (pt ws i) (pt ws (i + 1)) (pt ws (i + 2))) ∧ ∀ i, 1 ≤ i → i + 1 < ws.length → 0 < tn (pt ws 0) (pt ws i) (pt ws (i + 1))) → Q (.bl false) H' := fun H' s n => k false H' s ⟨(fun z => by cases z), fun z => absurd z n⟩
    refine ⟨_, rfl, _, rfl, _, rfl, ?_⟩
    refine noPart (slA_of hr2.t fun q3 H3 s3 h3 => ?_)
    refine ⟨_, rfl, _, rfl, ?_⟩
    refine noPart (slA_of (tSame s3 hr2.t) fun q4 H4 s4 h4 => ?_)
    rw [show ((1 : Int)) = ((1 : Nat) : Int) from rfl, cut_drop] at h3
    rw [show ((2 : Int)) = ((2 : Nat) : Int) from rfl, cut_drop] at h4
    have s34 := s3.trans s4
    have s24 := s12.trans s34
    refine ⟨_, _, _, rfl, ⟨_, _, _, tSame s34 hr2.t, tSame s4 h3, h4⟩, (tb.same s34) _ (by simp [Txt.ts]), fun H5 g5 => ?_⟩
    have s5 := same_tab ((tb.same s34) _ (by simp [Txt.ts])) g5
    refine Gx.gen_walk (walk_zip3 (xs := refs (ws ++ ws.take 2)) (ys := (refs (ws ++ ws.take 2)).drop 1) (zs := (refs (ws ++ ws.take 2)).drop 2) rfl) (fun i H' => Same H4 H' ∧ ∀ j, j < i → 0 < tn (pt ws j) (pt ws (j + 1)) (pt ws (j + 2))) ⟨s5, fun j h => absurd h (Nat.not_lt_zero _)⟩ (fun i H' h => ⟨tSame h.1 (tSame s34 hr2.t), tSame h.1 (tSame s4 h3), tSame h.1 h4⟩) ?_ ?_
    · rintro i x H6 H7 hi ⟨s6, hl⟩ ⟨T1, x1, x2, x3, rfl, hT, rfl, f1, f2, f3⟩
      have f1 : (refs (ws ++ ws.take 2))[i]? = some x1 := f1
      have f2 : ((refs (ws ++ ws.take 2)).drop 1)[i]? = some x2 := f2
      have f3 : ((refs (ws ++ ws.take 2)).drop 2)[i]? = some x3 := f3
      rw [List.getElem?_map] at f1
      rw [List.getElem?_drop, List.getElem?_map, Nat.add_comm] at f2 f3
      obtain ⟨u, g1, rfl⟩ := Option.map_eq_some_iff.mp f1
      obtain ⟨v, g2, rfl⟩ := Option.map_eq_some_iff.mp f2
      obtain ⟨y, g3, rfl⟩ := Option.map_eq_some_iff.mp f3
      obtain ⟨eu, mu⟩ := row g1
      obtain ⟨ev, mv⟩ := row g2
      obtain ⟨ey, my⟩ := row g3
      have s26 := s24.trans s6
      have ha6 := (ha.same s26)
      have e7 := same_new (o := HO.tup [V.ref u.1, .ref v.1, .ref y.1]) hT
      have ou := ha.on u mu
      have ov := ha.on v mv
      refine ⟨_, _, rfl, tHere, rfl, _, _, rfl, _, _, rfl, _, _, rfl, rfl, ⟨rfl, yesI ?_⟩⟩
      refine iteT ?_
      refine ⟨_, rfl, _, rfl, _, rfl, _, _, _, _, _, _, _, _, _, rfl, tSame e7 (ha6.p u mu), tSame e7 (ha6.p v mv), tSame e7 (ha6.p y my), ⟨ou.sx, ov.sx, ou.sy, ov.sy⟩, _, _, rfl, rfl, _, rfl, ?_⟩
      have s27 := s26.trans e7
      have hi : i < ws.length := by
        simp only [List.length_drop, List.length_map] at hi
        omega
      rw [show turnI u.2.1 u.2.2 v.2.1 v.2.2 y.2.1 y.2.2 = tn (pt ws i) (pt ws (i + 1)) (pt ws (i + 2)) from by rw [← eu, ← ev, ← ey]; rfl]
      by_cases q : 0 < tn (pt ws i) (pt ws (i + 1)) (pt ws (i + 2))
      · refine (if_neg (by rw [decide_eq_true q]; decide)).mpr ⟨s6.trans e7, fun j hj => ?_⟩
        by_cases e : j = i
        · rw [e]; exact q
        · exact hl j (by omega)
      · refine (if_pos (decide_eq_false q)).mpr ?_
        rw [hQ]
        exact ⟨_, rfl, iteT (no _ s27 fun z => q (z.1 i hi))⟩
    rintro H6 ⟨s6, hl⟩
    rw [hQ]
    refine ⟨_, rfl, iteF ?_⟩
    have hl : ∀ j, j < ws.length → 0 < tn (pt ws j) (pt ws (j + 1)) (pt ws (j + 2)) := fun j hj => hl j (by simp only [List.length_drop, List.length_map]; omega)
    have s26 := s24.trans s6
    have ha6 := ha.same s26
    have tb6 := (tb.same s34).same s6
    try unfold tNext
    try dsimp only
    refine ⟨_, rfl, _, rfl, ?_⟩
    refine noPart (slA_of ha6.t fun q5 H7 s7 h5 => ?_)
    refine ⟨_, rfl, _, rfl, ?_⟩
    refine noPart (slA_of (tSame s7 ha6.t) fun q6 H8 s8 h6 => ?_)
    rw [show ((1 : Int)) = ((1 : Nat) : Int) from rfl, cut_drop] at h5
    rw [show ((2 : Int)) = ((2 : Nat) : Int) from rfl, cut_drop] at h6
    have s78 := s7.trans s8
    refine ⟨_, _, _, _, rfl, .inr ⟨tSame s8 h5, h6, (tb6.same s78) _ (by simp [Txt.ts]), fun H9 g9 => ?_⟩⟩
    have s9 := same_tab ((tb6.same s78) _ (by simp [Txt.ts])) g9
    obtain ⟨z0, h0⟩ : ∃ z, ws[0]? = some z := ⟨_, List.getElem?_eq_getElem (by omega)⟩
    have m0 := List.mem_of_getElem? h0
    have e0 : z0.2 = pt ws 0 := (pt_at h0).symm
    have o0 := ha.on z0 m0
    refine Gx.gen_walk (walk_zipT (xs := (refs ws).drop 1) (ys := (refs ws).drop 2) rfl) (fun i H' => Same H8 H' ∧ ∀ j, j < i → 0 < tn (pt ws 0) (pt ws (j + 1)) (pt ws (j + 2))) ⟨s9, fun j h => absurd h (Nat.not_lt_zero _)⟩ (fun i H' h => ⟨tSame h.1 (tSame s8 h5), tSame h.1 h6⟩) ?_ ?_
    · rintro i x H10 H11 hi ⟨s10, hk⟩ ⟨T1, x2, x3, rfl, hT, rfl, f2, f3⟩
      have f2 : ((refs ws).drop 1)[i]? = some x2 := f2
      have f3 : ((refs ws).drop 2)[i]? = some x3 := f3
      rw [List.getElem?_drop, List.getElem?_map, Nat.add_comm] at f2 f3
      obtain ⟨v, g2, rfl⟩ := Option.map_eq_some_iff.mp f2
      obtain ⟨y, g3, rfl⟩ := Option.map_eq_some_iff.mp f3
      have ev : v.2 = pt ws (i + 1) := (pt_at g2).symm
      have ey : y.2 = pt ws (i + 2) := (pt_at g3).symm
      have mv := List.mem_of_getElem? g2
      have my := List.mem_of_getElem? g3
      have s810 := s78.trans s10
      have ha10 := ha6.same s810
      have e7 := same_new (o := HO.tup [V.ref v.1, .ref y.1]) hT
      have ov := ha.on v mv
      refine ⟨_, _, rfl, tHere, rfl, _, _, rfl, _, _, rfl, rfl, ⟨rfl, yesI ?_⟩⟩
      refine iteT ?_
      refine ⟨_, rfl, _, _, _, _, rfl, rfl, tSame e7 ha10.t, atI_nat (j := 0) (by rw [List.getElem?_map, h0]; rfl), _, rfl, _, rfl, _, _, _, _, _, _, _, _, _, rfl, tSame e7 (ha10.p z0 m0), tSame e7 (ha10.p v mv), tSame e7 (ha10.p y my), ⟨o0.sx, ov.sx, o0.sy, ov.sy⟩, _, _, rfl, rfl, _, rfl, ?_⟩
      rw [show turnI z0.2.1 z0.2.2 v.2.1 v.2.2 y.2.1 y.2.2 = tn (pt ws 0) (pt ws (i + 1)) (pt ws (i + 2)) from by rw [← e0, ← ev, ← ey]; rfl]
      have li := (List.getElem?_eq_some_iff.mp g3).1
      by_cases q : 0 < tn (pt ws 0) (pt ws (i + 1)) (pt ws (i + 2))
      · refine (if_neg (by rw [decide_eq_true q]; decide)).mpr ⟨s10.trans e7, fun j hj => ?_⟩
        by_cases e : j = i
        · rw [e]; exact q
        · exact hk j (by omega)
      · refine (if_pos (decide_eq_false q)).mpr ?_
        exact no _ (s26.trans (s810.trans e7)) fun z => q (z.2 (i + 1) (by omega) (by omega))
    rintro H10 ⟨s10, hk⟩
    refine k true _ (s26.trans (s78.trans s10)) ⟨fun _ => ⟨hl, fun i h1 h2 => ?_⟩, fun _ => rfl⟩
    have := hk (i - 1) (by simp only [List.length_drop, List.length_map]; omega)
    rw [show i - 1 + 1 = i by omega, show i - 1 + 2 = i + 1 by omega] at this
    exact this
theorem ok_is_hull (T : Txt K mg) (TB : TxtB T base w) : FnOk P w K mg base CX0 11 T.a_is_hull T.d_is_hull ["points", "value"] (fun vs H Q _ => ∃ (a : Addr) (zs : List Zp) (x : V), vs = [.ref a, x] ∧ LnAt K H a zs ∧ 1 ≤ zs.length ∧ zs.length ≤ 60 ∧ Tbs T.ts H ∧ ((∃ (c : Addr) (ws : List Zp), x = .ref c ∧ LnAt K H c ws ∧ ws.length ≤ 63 ∧ ∀ (b : Bool) H', Same H H' → (b = true ↔ Wrap (crd zs) (crd ws)) → Q (.bl b) H') ∨ (∃ n, Ty K H x n ∧ n ≠ "tuple" ∧ ∀ H', Same H H' → Q (.bl false) H'))) := by
  refine T.F_is_hull.ok sc_is_hull (fun vs H Q E h => ?_) (fun A outer s H vs Q E hr h => ?_)
  · obtain ⟨a, zs, x, rfl, ha, l1, l60, tb, hx⟩ := h
    rfl
  · obtain ⟨a, zs, x, rfl, ha, l1, l60, tb, hx⟩ := h
    refine ⟨_, (pss_cons (ps_expr (pe_call (ok_need T TB) (hr.mono (by omega)) rfl T.m_need T.F_need.kp T.b_need .nil pass0 (pa_cons (pe_call (ok_are_points T TB) (hr.mono (by omega)) rfl T.m_are_points T.F_are_points.kp T.b_are_points .nil pass0 (pa_cons (pv 0) (pa_cons pe_int (pa_cons (pe_gI T.c_MOST_OF_HULL) pa_nil)))) (pa_cons pe_str pa_nil))))
      (pss_cons (ps_if (pt_not (pt_val (pe_call (ok_are_corners T TB) (hr.mono (by omega)) rfl T.m_are_corners T.F_are_corners.kp T.b_are_corners .nil pass0 (pa_cons (pv 0) (pa_cons (pv 1) pa_nil)))))
        (pss_one (ps_ret pe_bl))
        pss_nil)
      (pss_cons (ps_if (pt_cmpR op_eq (pe_callB call_len (by rfl) T.n_len (by decide +kernel) (pa_cons (pv 1) pa_nil)) pe_int (nomark _))
        (pss_one (ps_ret (Gx.pe_gen false (own := [("p", 4)]) (g := gName 4) (tt := tYes) (x := "p") (k := 0) rfl (hr.mono (by omega)) rfl sc_is_hull.nd rfl T.n_all TB.t_is_hull rfl (Gx.genS_by rfl rfl (by decide +kernel) rfl rfl (by rfl)) (blkOk_by (own := [("p", 4)]) (N := N_is_hull) (sc := defScope s_is_hull) (by decide +kernel)) (pi_tup (pv 0)) (fun _ _ _ _ _ _ _ hB => (pg_name (i := 4) sc_is_hull.nd rfl (Or.inl rfl))) (fun _ _ _ _ _ _ _ hB => pts_nil) (fun _ _ _ _ _ _ _ hB => (pe_cmpR (op_eqK (K := K) rfl hB.units) (pv 4) (pe_ix (r := rIxT K) ix_tup (pv 1) pe_int (fun _ _ => rfl)) (nomark _))) (fun _ => rfl))))
        pss_nil)
      (pss_cons (ps_if (pt_cmpR op_eq (pe_callB call_len (by rfl) T.n_len (by decide +kernel) (pa_cons (pv 1) pa_nil)) pe_int (nomark _))
        (pss_one (ps_ret (Gx.pe_gen false (own := [("p", 4)]) (g := gName 4) (tt := tYes) (x := "p") (k := 2) rfl (hr.mono (by omega)) rfl sc_is_hull.nd rfl T.n_all TB.t_is_hull rfl (Gx.genS_by rfl rfl (by decide +kernel) rfl rfl (by rfl)) (blkOk_by (own := [("p", 4)]) (N := N_is_hull) (sc := defScope s_is_hull) (by decide +kernel)) (pi_tup (pv 0)) (fun _ _ _ _ _ _ _ hB => (pg_name (i := 4) sc_is_hull.nd rfl (Or.inl rfl))) (fun _ _ _ _ _ _ _ hB => pts_nil) (fun _ _ _ _ _ _ _ hB => (pe_call (ok_is_on T TB) (hB.mono (by omega)) rfl T.m_is_on T.F_is_on.kp T.b_is_on .nil pass0 (pa_cons (pv 4) (pa_cons (pv 1) pa_nil)))) (fun _ => rfl))))
        pss_nil)
      (pss_cons (ps_if (pt_not (pt_val (pe_call (ok_turns_left T TB) (hr.mono (by omega)) rfl T.m_turns_left T.F_turns_left.kp T.b_turns_left .nil pass0 (pa_cons (pv 1) pa_nil))))
        (pss_one (ps_ret pe_bl))
        pss_nil)
      (pss_one (ps_ret (Gx.pe_gen2 false (own := [("a", 2), ("b", 3), ("p", 4)]) (vs1 := [4]) (g := (gTup K 2 (gCons (gName 2) (gCons (gName 3) gNil)))) (g1 := (gName 4)) (wi1 := (iTup K (tVar 0))) (tt := tYes) (tt1 := tYes) (x := "a") (k := 1) rfl (hr.mono (by omega)) rfl sc_is_hull.nd rfl T.n_all TB.t_is_hull rfl (Gx.genS_by rfl rfl (by decide +kernel) rfl rfl (by rfl)) (blkOk_by (own := [("a", 2), ("b", 3), ("p", 4)]) (N := N_is_hull) (sc := defScope s_is_hull) (by decide +kernel)) (by decide) (pi_list (pe_call (ok_ways_around T TB) (hr.mono (by omega)) rfl T.m_ways_around T.F_ways_around.kp T.b_ways_around .nil pass0 (pa_cons (pv 1) pa_nil))) (fun _ _ _ _ _ _ _ hB => (pg_tup (by rfl) (pgs_cons (pg_name (i := 2) sc_is_hull.nd rfl (Or.inl rfl)) (pgs_cons (pg_name (i := 3) sc_is_hull.nd rfl (Or.inl rfl)) pgs_nil)))) (fun _ _ _ _ _ _ _ hB => pts_nil) (fun _ _ _ _ _ _ _ hB => (pi_tup (pv 0))) (fun _ _ _ _ _ _ _ hB => (pg_name (i := 4) sc_is_hull.nd rfl (Or.inl rfl))) (fun _ _ _ _ _ _ _ hB => pts_nil) (fun _ _ _ _ _ _ _ hB => (pe_cmpR op_ge (pe_call (ok_turn_of T TB) (hB.mono (by omega)) rfl T.m_turn_of T.F_turn_of.kp T.b_turn_of .nil pass0 (pa_cons (pv 2) (pa_cons (pv 3) (pa_cons (pv 4) pa_nil)))) pe_int (nomark _))) (fun _ => rfl) (fun _ _ => rfl))))))))), ?_⟩
    refine ⟨_, rfl, _, _, _, _, rfl, ha.av (by omega), tb, fun H1 s1 => ⟨_, _, rfl, by rw [decide_eq_true (by omega), decide_eq_true (by omega)]; rfl, ?_⟩⟩
    have ha := ha.same s1
    have tb := tb.same s1
    rcases hx with ⟨c, ws, rfl, hc, lw, k⟩ | ⟨n, ty, hn, k⟩
    rotate_left
    · exact ⟨_, rfl, _, rfl, a, zs, _, rfl, ha, l1, l60, tb, .inr ⟨n, ty.same s1, hn, fun H2 s2 => ⟨_, rfl, (if_pos rfl).mpr (k _ (s1.trans s2))⟩⟩⟩
    have hc := hc.same s1
    refine ⟨_, rfl, _, rfl, a, zs, _, rfl, ha, l1, l60, tb, .inl ⟨c, ws, rfl, hc, lw, fun b H2 s2 hb => ⟨_, rfl, ?_⟩⟩⟩
    cases b
    · refine (if_pos rfl).mpr (k false _ (s1.trans s2) ⟨(fun z => by cases z), fun W => absurd (hb.mpr (corn_of W)) (by decide)⟩)
    refine (if_neg (by decide)).mpr ?_
    have C := hb.mp rfl
    have ha := ha.same s2
    have hc := hc.same s2
    have tb := tb.same s2
    have lr : (refs ws).length = ws.length := List.length_map _
    refine ⟨_, rfl, _, _, rfl, .inr ⟨_, hc.t, rfl⟩, rfl, _, rfl, ifD (fun e1 => ?_) (fun e1 => ?_)⟩
    · have l1 : ws.length = 1 := by
        have e1 : V.int ((refs ws).length : Int) = V.int 1 := e1
        injection e1 with e1
        omega
      obtain ⟨z0, h0⟩ : ∃ z, ws[0]? = some z := ⟨_, List.getElem?_eq_getElem (by omega)⟩
      have m0 := List.mem_of_getElem? h0
      obtain ⟨z1, ez⟩ := List.length_eq_one_iff.mp l1
      have e01 : z0 = z1 := by rw [ez] at h0; exact (Option.some.inj h0).symm
      have W1 : Wrap (crd zs) (crd ws) ↔ z0.2 ∈ crd zs ∧ ∀ q ∈ crd zs, q = z0.2 := by rw [ez, ← e01]; exact wrap_one_iff
      have c0 : z0.2 ∈ crd zs := C.sub _ (List.mem_map.mpr ⟨z0, m0, rfl⟩)
      refine ⟨_, rfl, _, rfl, ⟨_, ha.t⟩, tb _ (by simp [Txt.ts]), fun H3 g3 => ?_⟩
      have s3 := same_tab (tb _ (by simp [Txt.ts])) g3
      refine Gx.gen_walk (walk_tup (K := K) (a := a) (xs := refs zs)) (fun i H' => Same H2 H' ∧ ∀ z ∈ zs.take i, z.2 = z0.2) ⟨s3, fun z h => by cases h⟩ (fun i H' h => tSame h.1 ha.t) ?_ ?_
      · rintro i x H4 H5 hi ⟨s4, hall⟩ ⟨rfl, hxi⟩
        rw [List.getElem?_map] at hxi
        obtain ⟨z, g1, rfl⟩ := Option.map_eq_some_iff.mp hxi
        have mz := List.mem_of_getElem? g1
        refine ⟨rfl, yesI ?_⟩
        refine iteT ?_
        refine ⟨_, rfl, _, rfl, _, _, _, _, rfl, rfl, tSame s4 hc.t, atI_nat (j := 0) (by rw [List.getElem?_map, h0]; rfl), _, _, _, _, _, _, rfl, rfl, tSame s4 (ha.p z mz), tSame s4 (hc.p z0 m0), ?_⟩
        refine ⟨_, rfl, ?_⟩
        by_cases q : z.2.1 = z0.2.1 ∧ z.2.2 = z0.2.2
        · refine (if_neg (by rw [decide_eq_true q]; decide)).mpr ⟨s4, fun v hv => ?_⟩
          rw [List.take_succ, g1] at hv
          rcases List.mem_append.mp hv with h | h
          · exact hall v h
          · rw [List.mem_singleton.mp (show v ∈ [z] from h)]
            exact pt_eq q.1 q.2
        · refine (if_pos (decide_eq_false q)).mpr (k false _ ((s1.trans s2).trans s4) ⟨(fun y => by cases y), fun W => absurd ((W1.mp W).2 z.2 (List.mem_map.mpr ⟨z, mz, rfl⟩)) fun e => q ⟨congrArg Prod.fst e, congrArg Prod.snd e⟩⟩)
      rintro H4 ⟨s4, hall⟩
      rw [show (refs zs).length = zs.length from List.length_map _, List.take_length] at hall
      exact k true _ ((s1.trans s2).trans s4) ⟨fun _ => W1.mpr ⟨c0, fun q hq => by obtain ⟨z, hz, rfl⟩ := List.mem_map.mp hq; exact hall z hz⟩, fun _ => rfl⟩
    have k : ∀ (b : Bool) H', Same H2 H' → (b = true ↔ Wrap (crd zs) (crd ws)) → Q (.bl b) H' := fun b H' s h => k b H' ((s1.trans s2).trans s) h
    have n1 : ws.length ≠ 1 := fun e => e1 (by rw [lr, e]; rfl)
    refine ⟨_, rfl, _, _, rfl, .inr ⟨_, hc.t, rfl⟩, rfl, _, rfl, ifD (fun e2 => ?_) (fun e2 => ?_)⟩
    · have l2 : ws.length = 2 := by
        have e2 : V.int ((refs ws).length : Int) = V.int 2 := e2
        injection e2 with e2
        omega
      obtain ⟨z0, z1, ez⟩ : ∃ x y, ws = [x, y] := by
        match ws, l2 with
        | [x, y], _ => exact ⟨x, y, rfl⟩
      have m0 : z0 ∈ ws := by rw [ez]; simp
      have m1 : z1 ∈ ws := by rw [ez]; simp
      have ec : crd ws = [z0.2, z1.2] := by rw [ez]; rfl
      have p0 : pt ws 0 = z0.2 := pt_at (by rw [ez]; rfl)
      have ab : lt z0.2 z1.2 = true := by
        have a := C.least z1.2 (List.mem_map.mpr ⟨z1, m1, rfl⟩)
        rw [p0] at a
        cases c : lt z0.2 z1.2 with
        | true => rfl
        | false =>
          have nd := C.nd
          rw [ec] at nd
          have e := lt_tri c a
          rw [e] at nd
          simp at nd
      have W2 : Wrap (crd zs) (crd ws) ↔ ∀ z ∈ zs, onI z0.2.1 z0.2.2 z1.2.1 z1.2.2 z.2.1 z.2.2 = true := by
        rw [ec, wrap_two_iff ab]
        have on_ : ∀ q : Pt, onI z0.2.1 z0.2.2 z1.2.1 z1.2.2 q.1 q.2 = true ↔ tn z0.2 z1.2 q = 0 ∧ lt q z0.2 = false ∧ lt z1.2 q = false := fun q => by
          unfold onI
          rw [Bool.and_eq_true, Bool.and_eq_true, decide_eq_true_eq, Bool.not_eq_true', Bool.not_eq_true']
          rfl
        constructor
        · rintro ⟨_, h⟩ z hz
          exact (on_ z.2).mpr (h z.2 (List.mem_map.mpr ⟨z, hz, rfl⟩))
        · intro h
          refine ⟨⟨?_, C.sub _ (List.mem_map.mpr ⟨z0, m0, rfl⟩), C.sub _ (List.mem_map.mpr ⟨z1, m1, rfl⟩)⟩, fun q hq => ?_⟩
          · have := C.few
            omega
          · obtain ⟨z, hz, rfl⟩ := List.mem_map.mp hq
            exact (on_ z.2).mp (h z hz)
      have hg : SegAt K H2 c z0.1 z1.1 z0.2.1 z0.2.2 z1.2.1 z1.2.2 := ⟨by have := hc.t; rw [ez] at this; exact this, hc.p z0 m0, hc.p z1 m1, hc.on z0 m0, hc.on z1 m1, ab⟩
      refine ⟨_, rfl, _, rfl, ⟨_, ha.t⟩, tb _ (by simp [Txt.ts]), fun H3 g3 => ?_⟩
      have s3 := same_tab (tb _ (by simp [Txt.ts])) g3
      refine Gx.gen_walk (walk_tup (K := K) (a := a) (xs := refs zs)) (fun i H' => Same H2 H' ∧ ∀ z ∈ zs.take i, onI z0.2.1 z0.2.2 z1.2.1 z1.2.2 z.2.1 z.2.2 = true) ⟨s3, fun z h => by cases h⟩ (fun i H' h => tSame h.1 ha.t) ?_ ?_
      · rintro i x H4 H5 hi ⟨s4, hall⟩ ⟨rfl, hxi⟩
        rw [List.getElem?_map] at hxi
        obtain ⟨z, g1, rfl⟩ := Option.map_eq_some_iff.mp hxi
        have mz := List.mem_of_getElem? g1
        refine ⟨rfl, yesI ?_⟩
        refine iteT ?_
        refine ⟨_, rfl, _, rfl, z.1, c, z0.1, z1.1, _, _, _, _, _, _, rfl, tSame s4 (ha.p z mz), hg.same s4, ha.on z mz, ⟨_, rfl, ?_⟩⟩
        by_cases q : onI z0.2.1 z0.2.2 z1.2.1 z1.2.2 z.2.1 z.2.2 = true
        · refine (if_neg (by rw [q]; decide)).mpr ⟨s4, fun v hv => ?_⟩
          rw [List.take_succ, g1] at hv
          rcases List.mem_append.mp hv with h | h
          · exact hall v h
          · rw [List.mem_singleton.mp (show v ∈ [z] from h)]
            exact q
        · refine (if_pos (Bool.eq_false_iff.mpr q)).mpr (k false _ s4 ⟨(fun y => by cases y), fun W => absurd (W2.mp W z mz) q⟩)
      rintro H4 ⟨s4, hall⟩
      rw [show (refs zs).length = zs.length from List.length_map _, List.take_length] at hall
      exact k true _ s4 ⟨fun _ => W2.mpr hall, fun _ => rfl⟩
    have n2 : ws.length ≠ 2 := fun e => e2 (by rw [lr, e]; rfl)
    have l3 : 3 ≤ ws.length := by have := C.l1; omega
    have l60' : ws.length ≤ 60 := by have := C.few; rw [List.length_map] at this; omega
    refine ⟨_, rfl, c, ws, rfl, hc, l3, l60', tb, fun bt H3 s3 ht => ⟨_, rfl, ?_⟩⟩
    cases bt
    · refine (if_pos rfl).mpr (k false _ s3 ⟨(fun z => by cases z), fun W => ?_⟩)
      have R := IsH.of W l3
      exact absurd (ht.mpr ⟨R.left, R.star⟩) (by decide)
    refine (if_neg (by decide)).mpr ?_
    obtain ⟨lft, str⟩ := ht.mp rfl
    have WH : Wrap (crd zs) (crd ws) ↔ ∀ i, i < ws.length → ∀ q ∈ crd zs, 0 ≤ tn (pt ws i) (pt ws (i + 1)) q := (isH_iff l3).symm.trans ⟨fun R => R.ge, fun h => ⟨l3, C.few, C.sub, C.nd, C.least, lft, str, h⟩⟩
    have k : ∀ (b : Bool) H', Same H3 H' → (b = true ↔ ∀ i, i < ws.length → ∀ q ∈ crd zs, 0 ≤ tn (pt ws i) (pt ws (i + 1)) q) → Q (.bl b) H' := fun b H' s h => k b H' (s3.trans s) (h.trans WH.symm)
    have ha := ha.same s3
    have hc := hc.same s3
    have tb := tb.same s3
    try unfold tNext
    try dsimp only
    refine ⟨_, rfl, c, ws, rfl, hc, by omega, by omega, fun l ps H4 s4 hl lp row => ?_⟩
    have tb4 := tb.same s4
    refine ⟨_, rfl, ⟨_, hl⟩, tb4 _ (by simp [Txt.ts]), fun H5 g5 => ?_⟩
    have s5 := same_tab (tb4 _ (by simp [Txt.ts])) g5
    have lz : (refs zs).length = zs.length := List.length_map _
    refine ⟨60, walk_any (walk_list (K := K) (a := l) (xs := ps.map V.ref)) (fun i H' => Same H4 H' ∧ ∀ j, j < i → ∀ q ∈ crd zs, 0 ≤ tn (pt ws j) (pt ws (j + 1)) q) ⟨s5, fun j h => absurd h (Nat.not_lt_zero _)⟩ (fun i H' _ h => h.1.seq hl) ?_ ?_⟩
    · rintro i x H6 H7 hi ⟨s6, hn⟩ ⟨rfl, hxi⟩
      rw [List.getElem?_map] at hxi
      obtain ⟨p, g1, rfl⟩ := Option.map_eq_some_iff.mp hxi
      have hi' : i < ws.length := by have := (List.getElem?_eq_some_iff.mp g1).1; omega
      obtain ⟨u, gu⟩ : ∃ u, ws[i]? = some u := ⟨_, List.getElem?_eq_getElem hi'⟩
      have mu := List.mem_of_getElem? gu
      have eu : u.2 = pt ws i := (pt_at gu).symm
      obtain ⟨v, gv, ev, mv⟩ : ∃ v, (ws.drop 1 ++ ws.take 1)[i]? = some v ∧ v.2 = pt ws (i + 1) ∧ v ∈ ws := by
        by_cases c1 : i + 1 < ws.length
        · refine ⟨ws[i + 1], ?_, ?_, List.getElem_mem c1⟩
          · rw [List.getElem?_append_left (by rw [List.length_drop]; omega), List.getElem?_drop, Nat.add_comm, List.getElem?_eq_getElem c1]
          · exact (pt_at (List.getElem?_eq_getElem c1)).symm
        · have e0 : i + 1 = ws.length := by omega
          obtain ⟨z0, h0⟩ : ∃ z, ws[0]? = some z := ⟨_, List.getElem?_eq_getElem (by omega)⟩
          refine ⟨z0, ?_, ?_, List.mem_of_getElem? h0⟩
          · rw [List.getElem?_append_right (by rw [List.length_drop]; omega), List.length_drop, show i - (ws.length - 1) = 0 by omega, List.getElem?_take, if_pos (by omega), h0]
          · rw [e0, ← Nat.zero_add ws.length, pt_add]
            exact (pt_at h0).symm
      have hp := row i p u v g1 gu gv
      have s46 := s4.trans s6
      have ou := hc.on u mu
      have ov := hc.on v mv
      refine ⟨_, _, rfl, tSame s6 hp, rfl, _, _, rfl, _, _, rfl, rfl, ⟨rfl, yesI ?_⟩⟩
      refine iteT ?_
      refine ⟨_, rfl, _, rfl, ⟨_, tSame s46 ha.t⟩, Gx.walk_in (walk_tup (K := K) (a := a) (xs := refs zs)) (by omega) (fun j H' => Same H4 H' ∧ ∀ z ∈ zs.take j, 0 ≤ tn (pt ws i) (pt ws (i + 1)) z.2) ⟨s6, fun z h => by cases h⟩ (fun i H' _ h => tSame (s4.trans h.1) ha.t) ?_ ?_⟩
      · rintro j x H8 H9 hj ⟨s8, hm⟩ ⟨rfl, hxj⟩
        rw [List.getElem?_map] at hxj
        obtain ⟨z, gz, rfl⟩ := Option.map_eq_some_iff.mp hxj
        have mz := List.mem_of_getElem? gz
        have s48 := s4.trans s8
        refine ⟨rfl, yesI ?_⟩
        refine iteT ?_
        refine ⟨_, rfl, _, rfl, _, rfl, u.1, v.1, z.1, _, _, _, _, _, _, rfl, tSame s48 (hc.p u mu), tSame s48 (hc.p v mv), tSame s48 (ha.p z mz), ⟨ou.sx, ov.sx, ou.sy, ov.sy⟩, _, _, rfl, rfl, _, rfl, ?_⟩
        rw [show turnI u.2.1 u.2.2 v.2.1 v.2.2 z.2.1 z.2.2 = tn (pt ws i) (pt ws (i + 1)) z.2 from by rw [← eu, ← ev]; rfl]
        by_cases q : 0 ≤ tn (pt ws i) (pt ws (i + 1)) z.2
        · refine (if_neg (by rw [decide_eq_true q]; decide)).mpr ⟨s8, fun y hy => ?_⟩
          rw [List.take_succ, gz] at hy
          rcases List.mem_append.mp hy with h | h
          · exact hm y h
          · rw [List.mem_singleton.mp (show y ∈ [z] from h)]
            exact q
        · refine (if_pos (decide_eq_false q)).mpr (k false _ s48 ⟨(fun y => by cases y), fun W => absurd (W i hi' z.2 (List.mem_map.mpr ⟨z, mz, rfl⟩)) q⟩)
      rintro H8 ⟨s8, hm⟩
      rw [lz, List.take_length] at hm
      refine ⟨s8, fun j hj => ?_⟩
      by_cases e : j = i
      · rw [e]
        intro q hq
        obtain ⟨z, hz, rfl⟩ := List.mem_map.mp hq
        exact hm z hz
      · exact hn j (by omega)
    rintro H6 ⟨s6, hn⟩
    exact k true _ (s4.trans s6) ⟨fun _ i hi => hn i (by rw [List.length_map, lp]; exact hi), fun _ => rfl⟩
theorem ok__law_stream (T : Txt K mg) (TB : TxtB T base w) : FnOk P w K mg base CX0 1 T.a__law_stream T.d__law_stream ["script"] (fun vs H Q _ => ∃ (a : Addr) (ns : List Int), vs = [.ref a] ∧ SqL K H a (ns.map V.int) ∧ ∀ H' s b, Same H H' → H s = none → Strm H' s b → Q (.ref s) H') := by
  refine T.F__law_stream.ok sc__law_stream (fun vs H Q E h => ?_) (fun cdv A outer s H vs Q E hr h => ?_)
  · obtain ⟨a, ns, rfl, hS, k⟩ := h
    rfl
  · obtain ⟨a, ns, rfl, hS, k⟩ := h
    refine ⟨_, (pss_one (ps_ret (pe_lst (pa_cons (pe_callTy call_list_of (by rfl) T.n_list (by decide +kernel) (pa_cons (pv 0) pa_nil)) (pa_cons pe_int (pa_cons pe_int pa_nil)))))), ?_⟩
    refine ⟨_, rfl, _, _, rfl, .inl hS, fun b hb => ⟨small rfl, fun s hs => ?_⟩⟩
    have hs' := hs
    have nb : s ≠ b := fun e => by rw [e, upd_same] at hs'; cases hs'
    rw [upd_ne nb] at hs'
    exact k _ s b (same_then (same_new hb) hs) hs' ⟨ns, 0, 0, by rw [upd_ne nb.symm, upd_same], upd_same, by decide, by decide⟩
theorem ok__law_next (T : Txt K mg) (TB : TxtB T base w) : FnOk P w K mg base CX0 1 T.a__law_next T.d__law_next ["stream", "many"] (fun vs H Q _ => ∃ (s : Addr) (m : Int) (b : Addr), vs = [.ref s, .int m] ∧ 0 < m ∧ m < 2 ^ 200 ∧ Strm H s b ∧ ∀ (d : Int) H', 0 ≤ d → d < m → Strm H' s b → But s H H' → Q (.int d) H') := by
  refine T.F__law_next.ok sc__law_next (fun vs H Q E h => ?_) (fun cdv A outer s H vs Q E hr h => ?_)
  · obtain ⟨s, m, b, rfl, m0, m1, S, k⟩ := h
    rfl
  · obtain ⟨s, m, b, rfl, m0, m1, S, k⟩ := h
    refine ⟨_, (C8.pss_cut (ps_if (pt_cmpR op_eq (pe_ix (r := rIxL K) ix_list (pv 0) pe_int (fun _ _ => rfl)) pe_int (nomark _))
        (pss_cons (ps_set (i := 2) sc__law_next.nd rfl (Or.inl rfl) (pe_ix (r := rIxL K) ix_list (pv 0) pe_int (fun _ _ => rfl)))
        (pss_cons (ps_set (i := 3) sc__law_next.nd rfl (Or.inl rfl) (pe_op op_add pe_int (pv 2)))
        (C8.pss_cut (ps_if (pt_cmpR op_lt (pv 2) (pe_callB call_len (by rfl) T.n_len (by decide +kernel) (pa_cons (pe_ix (r := rIxL K) ix_list (pv 0) pe_int (fun _ _ => rfl)) pa_nil)) (nomark _))
          (pss_one (ps_set (i := 3) sc__law_next.nd rfl (Or.inl rfl) (pe_callB call_abs (by rfl) T.n_abs (by decide +kernel) (pa_cons (pe_ix (r := rIxL K) ix_list (pe_ix (r := rIxL K) ix_list (pv 0) pe_int (fun _ _ => rfl)) (pv 2) (fun _ _ => rfl)) pa_nil))))
          pss_nil)
        (C8.pss_cut (ps_if (pt_cmpR op_lt (pv 3) (pe_op op_pow pe_int pe_int) (nomark _))
          (pss_cons (ps_set (i := 3) sc__law_next.nd rfl (Or.inl rfl) (pe_op op_modN (pe_callTy call_int1 (by rfl) T.n_int (by decide +kernel) (pa_cons (pe_op op_add (pe_op op_add (pe_op op_mul (pv 3) pe_int) (pe_op op_mul (pv 2) pe_int)) pe_int) pa_nil)) pe_int))
          (pss_one (ps_set (i := 3) sc__law_next.nd rfl (Or.inl rfl) (pe_op op_add (pe_op op_mul (pe_op op_modN (pe_callTy call_int1 (by rfl) T.n_int (by decide +kernel) (pa_cons (pe_op op_add (pe_op op_mul (pv 3) pe_int) pe_int) pa_nil)) pe_int) pe_int) (pv 3)))))
          pss_nil)
        (pss_cons (ps_asg (pv 3) (pg_sub (pv 0) pe_int set_list))
        (pss_one (ps_asg (pe_op op_add (pv 2) pe_int) (pg_sub (pv 0) pe_int set_list))))))))
        pss_nil)
      (pss_cons (ps_set (i := 4) sc__law_next.nd rfl (Or.inl rfl) (pe_op op_modN (pe_callTy call_int1 (by rfl) T.n_int (by decide +kernel) (pa_cons (pe_ix (r := rIxL K) ix_list (pv 0) pe_int (fun _ _ => rfl)) pa_nil)) (pv 1)))
      (pss_cons (ps_asg (pe_op op_fdivW (pe_ix (r := rIxL K) ix_list (pv 0) pe_int (fun _ _ => rfl)) (pv 1)) (pg_sub (pv 0) pe_int set_list))
      (pss_one (ps_ret (pv 4)))))), ?_⟩
    obtain ⟨ns, c, kk, hb, hs, c0, k0⟩ := S
    have nbs : b ≠ s := Strm.ne hb hs
    refine ⟨fun σ' H' => ∃ (c kk : Int) (o1 o2 : Option V), σ' = [some (.ref s), some (.int m), o1, o2, none] ∧ H' b = some (.lst (ns.map V.int)) ∧ H' s = some (.lst [.ref b, .int c, .int kk]) ∧ 0 ≤ c ∧ 0 ≤ kk ∧ But s H H', ?_, ?_⟩
    rotate_left
    · rintro σ' H1 ⟨c, kk, o1, o2, rfl, hb, hs, c0, k0, hB⟩
      refine ⟨_, rfl, _, _, _, _, rfl, rfl, SqL.of hs, at1, .inl ⟨_, rfl, _, rfl, _, _, rfl, rfl, by omega, ?_⟩⟩
      refine ⟨_, rfl, _, _, _, _, rfl, rfl, SqL.of hs, at1, _, rfl, _, _, rfl, rfl, wide_div (b := 200) m0 (by omega) (by decide) (by decide), _, rfl, _, _, _, 1, rfl, rfl, hs, rfl, ?_⟩
      refine ⟨_, rfl, ?_⟩
      exact k _ _ (fmod_ge m0) (fmod_lt m0) ⟨ns, c / m, kk, by rw [upd_ne nbs]; exact hb, upd_same, div_ge c0 m0, k0⟩ hB.then_at
    refine ⟨_, rfl, _, _, _, _, rfl, rfl, SqL.of hs, at1, rfl, _, rfl, ?_⟩
    refine ifD (fun e => ?_) (fun e => ⟨c, kk, none, none, rfl, hb, hs, c0, k0, But.refl⟩)
    refine ⟨_, rfl, _, _, _, _, rfl, rfl, SqL.of hs, at2, _, rfl, _, _, rfl, rfl, ?_⟩
    -- if k < len(stream[0])
    have mid : ∀ (cell : Int) (t u : TS) (D : Ends) (σ : St) (H1 : Hp), t { D with nx := fun σ' H' => ∃ cell : Int, σ' = [some (.ref s), some (.int m), some (.int kk), some (.int cell), none] ∧ H' = H ∧ 0 ≤ cell } σ H1 → (∀ cell : Int, 0 ≤ cell → u D [some (.ref s), some (.int m), some (.int kk), some (.int cell), none] H) → C8.tCut t u D σ H1 := by
      intro _ t u D σ H1 h1 h2
      exact ⟨_, h1, fun σ' H' ⟨cell, e1, e2, e3⟩ => by rw [e1, e2]; exact h2 cell e3⟩
    refine mid 0 _ _ _ _ _ ?_ fun cell p0 => mid 0 _ _ _ _ _ ?_ fun cell p0 => ?_
    · refine ⟨_, rfl, _, rfl, _, _, _, _, rfl, rfl, SqL.of hs, at0, _, _, rfl, .inl ⟨_, SqL.of hb, rfl⟩, _, _, rfl, rfl, _, rfl, ?_⟩
      refine ifD (fun e => ?_) (fun e => ⟨_, rfl, rfl, by omega⟩)
      have hk : kk.toNat < ns.length := by rw [List.length_map] at e; omega
      refine ⟨_, rfl, _, _, _, _, rfl, rfl, SqL.of hs, at0, _, rfl, _, _, kk, _, rfl, rfl, SqL.of hb, at_of (j := kk.toNat) (v := V.int ns[kk.toNat]) (by omega) (by rw [List.getElem?_map, List.getElem?_eq_getElem hk]; rfl), _, rfl, ?_⟩
      exact ⟨_, rfl, rfl, by split <;> omega⟩
    · refine ⟨_, rfl, _, _, rfl, rfl, ⟨by decide, by decide, by decide⟩, _, _, rfl, rfl, _, rfl, ?_⟩
      refine ifD (fun e => ?_) (fun e => ⟨_, rfl, rfl, p0⟩)
      refine ⟨_, rfl, _, _, rfl, rfl, .inr ⟨by decide, by decide⟩, _, rfl, _, _, rfl, rfl, .inr ⟨by decide, by decide⟩, _, _, rfl, rfl, _, _, rfl, rfl, .inl ⟨_, rfl, _, _, rfl, rfl, show (2147483647 : Int) ≠ 0 by decide, ?_⟩⟩
      have q0 := fmod_ge (a := cell * 48271 + kk * 69621 + 11) (m := 2147483647) (by decide)
      refine ⟨_, rfl, _, _, rfl, rfl, .inr ⟨by decide, by decide⟩, _, _, rfl, rfl, .inl ⟨_, rfl, _, _, rfl, rfl, show (2147483647 : Int) ≠ 0 by decide, _, _, rfl, rfl, .inr ⟨by decide, by decide⟩, _, rfl, _, _, rfl, rfl, ?_⟩⟩
      have q1 := fmod_ge (a := (cell * 48271 + kk * 69621 + 11).fmod 2147483647 * 16807 + 13) (m := 2147483647) (by decide)
      exact ⟨_, rfl, rfl, by omega⟩
    refine ⟨_, rfl, _, rfl, _, _, _, 1, rfl, rfl, hs, rfl, ?_⟩
    refine ⟨_, rfl, _, _, rfl, rfl, _, rfl, _, _, _, 2, rfl, rfl, upd_same, rfl, ?_⟩
    exact ⟨cell, kk + 1, _, _, rfl, by rw [upd_ne nbs, upd_ne nbs]; exact hb, upd_same, p0, by omega, But.at.then_at⟩
theorem ok__law_is_integer (T : Txt K mg) (TB : TxtB T base w) : FnOk P w K mg base CX0 1 T.a__law_is_integer T.d__law_is_integer ["actual"] (fun vs H Q _ => ∃ x n, vs = [x] ∧ Ty K H x n ∧ Q (.bl (n == "int")) H) := by
  refine T.F__law_is_integer.ok sc__law_is_integer (fun vs H Q E h => ?_) (fun cdv A outer s H vs Q E hr h => ?_)
  · obtain ⟨x, n, rfl, hx, k⟩ := h
    rfl
  · obtain ⟨x, n, rfl, hx, k⟩ := h
    refine ⟨_, (pss_one (ps_ret (pe_and (pe_callB call_isi (by rfl) T.n_isinstance (by decide +kernel) (pa_cons (pv 0) (pa_cons (pe_bltn (v := .ty "int") (by rfl) T.n_int (by decide +kernel) rfl) pa_nil))) (pe_one (pe_not (pe_callB call_isi (by rfl) T.n_isinstance (by decide +kernel) (pa_cons (pv 0) (pa_cons (pe_bltn (v := .ty "bool") (by rfl) T.n_bool (by decide +kernel) rfl) pa_nil)))))))), ?_⟩
    refine ⟨_, rfl, ⟨_, _, _, _, _, rfl, .ty _, (hx).x, isaN (Ty.six hx) (by simp [My.six]), ⟨_, rfl, ?_⟩⟩⟩
    cases hx
    all_goals first | (refine ifTr (by decide) ?_) | (refine ifFa (by decide) ?_; exact k)
    · exact ⟨_, rfl, ⟨_, _, _, _, _, rfl, .ty _, ((Ty.bl _)).x, isaN (by simp [My.six]) (by simp [My.six]), ⟨_, rfl, k⟩⟩⟩
    · exact ⟨_, rfl, ⟨_, _, _, _, _, rfl, .ty _, ((Ty.int _)).x, isaN (by simp [My.six]) (by simp [My.six]), ⟨_, rfl, k⟩⟩⟩
def spDe (K : PySem.W.Frag) (n : Nat) : Sp := fun vs H Q _ => ∃ x y b, vs = [x, y] ∧ De K H n x y b ∧ ∀ H', Same H H' → Q (.bl b) H'
theorem ok__law_equal (T : Txt K mg) (TB : TxtB T base w) : ∀ n : Nat, FnOk P w K mg base CX0 (n + 1) T.a__law_equal T.d__law_equal ["actual", "due"] (spDe K n)
  | 0 => T.F__law_equal.ok sc__law_equal (fun vs H Q E h => by obtain ⟨x, y, b, rfl, hd, _⟩ := h; cases hd) (fun cdv A outer s H vs Q E hr h => by obtain ⟨x, y, b, rfl, hd, _⟩ := h; cases hd)
  | n + 1 => by
    have ih : FnOk P w K mg base CX0 (n + 1) T.a__law_equal T.d__law_equal ["actual", "due"] (spDe K n) := ok__law_equal T TB n
    refine T.F__law_equal.ok sc__law_equal (fun vs H Q E h => ?_) (fun cdv A outer s H vs Q E hr h => ?_)
    · obtain ⟨x, y, b, rfl, _⟩ := h
      rfl
    · obtain ⟨x, y, b, rfl, hd, k⟩ := h
      refine ⟨_, (pss_cons (ps_if (pt_cmpR op_isN (pv 1) pe_non (nomark _))
        (pss_one (ps_ret (pe_cmpR op_isN (pv 0) pe_non (nomark _))))
        pss_nil)
      (pss_cons (ps_if (pt_val (pe_callB call_isi (by rfl) T.n_isinstance (by decide +kernel) (pa_cons (pv 1) (pa_cons (pe_bltn (v := .ty "bool") (by rfl) T.n_bool (by decide +kernel) rfl) pa_nil))))
        (pss_one (ps_ret (pe_and (pe_callB call_isi (by rfl) T.n_isinstance (by decide +kernel) (pa_cons (pv 0) (pa_cons (pe_bltn (v := .ty "bool") (by rfl) T.n_bool (by decide +kernel) rfl) pa_nil))) (pe_one (pe_cmpR op_eq (pv 0) (pv 1) (nomark _))))))
        pss_nil)
      (pss_cons (ps_if (pt_val (pe_callB call_isi (by rfl) T.n_isinstance (by decide +kernel) (pa_cons (pv 1) (pa_cons (pe_bltn (v := .ty "int") (by rfl) T.n_int (by decide +kernel) rfl) pa_nil))))
        (pss_one (ps_ret (pe_and (pe_call (ok__law_is_integer T TB) (hr.mono (by omega)) rfl T.m__law_is_integer T.F__law_is_integer.kp T.b__law_is_integer .nil pass0 (pa_cons (pv 0) pa_nil)) (pe_one (pe_cmpR op_eq (pv 0) (pv 1) (nomark _))))))
        pss_nil)
      (pss_cons (ps_if (pt_val (pe_callB call_isi (by rfl) T.n_isinstance (by decide +kernel) (pa_cons (pv 1) (pa_cons (pe_bltn (v := .ty "str") (by rfl) T.n_str (by decide +kernel) rfl) pa_nil))))
        (pss_one (ps_ret (pe_and (pe_callB call_isi (by rfl) T.n_isinstance (by decide +kernel) (pa_cons (pv 0) (pa_cons (pe_bltn (v := .ty "str") (by rfl) T.n_str (by decide +kernel) rfl) pa_nil))) (pe_one (pe_cmpR op_eq (pv 0) (pv 1) (nomark _))))))
        pss_nil)
      (pss_cons (ps_if (PW.pt (pw_and (pt_val (pe_callB call_isi (by rfl) T.n_isinstance (by decide +kernel) (pa_cons (pv 1) (pa_cons (pe_bltn (v := .ty "tuple") (by rfl) T.n_tuple (by decide +kernel) rfl) pa_nil)))) (pw_and1 (pt_not (pt_val (pe_callB call_isi (by rfl) T.n_isinstance (by decide +kernel) (pa_cons (pv 0) (pa_cons (pe_bltn (v := .ty "tuple") (by rfl) T.n_tuple (by decide +kernel) rfl) pa_nil))))))))
        (pss_one (ps_ret pe_bl))
        pss_nil)
      (pss_cons (ps_if (PW.pt (pw_and (pt_val (pe_callB call_isi (by rfl) T.n_isinstance (by decide +kernel) (pa_cons (pv 1) (pa_cons (pe_bltn (v := .ty "list") (by rfl) T.n_list (by decide +kernel) rfl) pa_nil)))) (pw_and1 (pt_not (pt_val (pe_callB call_isi (by rfl) T.n_isinstance (by decide +kernel) (pa_cons (pv 0) (pa_cons (pe_bltn (v := .ty "list") (by rfl) T.n_list (by decide +kernel) rfl) pa_nil))))))))
        (pss_one (ps_ret pe_bl))
        pss_nil)
      (pss_cons (ps_if (pt_cmpR op_ne (pe_callB call_len (by rfl) T.n_len (by decide +kernel) (pa_cons (pv 0) pa_nil)) (pe_callB call_len (by rfl) T.n_len (by decide +kernel) (pa_cons (pv 1) pa_nil)) (nomark _))
        (pss_one (ps_ret pe_bl))
        pss_nil)
      (pss_one (ps_ret (pe_callB (cr_all rfl) (by rfl) T.n_all (by decide +kernel) (pa_cons (pe_lc (own := [("at", 2)]) (g := gName 2) (tt := tYes) rfl sc__law_equal.nd (pi_range1 rfl T.n_range (pa_cons (pe_callB call_len (by rfl) T.n_len (by decide +kernel) (pa_cons (pv 1) pa_nil)) pa_nil)) (blkOk_by (own := [("at", 2)]) (N := N__law_equal) (sc := defScope s__law_equal) (by decide +kernel)) (fun _ _ _ _ _ => pg_name (i := 2) sc__law_equal.nd rfl (Or.inl rfl)) (fun _ _ _ _ _ => pts_nil) (fun _ _ _ _ _ => (pe_call ih (hr.mono (by omega)) rfl T.m__law_equal T.F__law_equal.kp T.b__law_equal .nil pass0 (pa_cons (pe_ix (r := rIx K) ix_seq (pv 0) (pv 2) (fun _ _ => rfl)) (pa_cons (pe_ix (r := rIx K) ix_seq (pv 1) (pv 2) (fun _ _ => rfl)) pa_nil))))) pa_nil))))))))))), ?_⟩
      cases hd with
      | int _ i j =>
        refine ⟨_, rfl, rfl, _, rfl, ifD (fun e => by cases e) (fun _ => ?_)⟩
        refine ⟨_, rfl, _, _, _, _, _, rfl, .ty _, (Ty.int j).x, isaN (by simp [My.six]) (by simp [My.six]), _, rfl, ifFa (by decide) ?_⟩
        refine ⟨_, rfl, _, _, _, _, _, rfl, .ty _, (Ty.int j).x, isaN (by simp [My.six]) (by simp [My.six]), _, rfl, ifTr (by decide) ?_⟩
        refine ⟨_, rfl, _, _, rfl, .int _, _, rfl, ifTr (by decide) ?_⟩
        refine ⟨_, rfl, _, rfl, rfl, ?_⟩
        rw [show decide (V.int i = V.int j) = decide (i = j) from by simp]
        exact k _ (Same.refl _)
      | @ntup _ x m b ys ty hm h2 =>
        refine ⟨_, rfl, rfl, _, rfl, ifD (fun e => by cases e) (fun _ => ?_)⟩
        refine ⟨_, rfl, _, _, _, _, _, rfl, .ty _, (Ty.tup h2).x, isaN (by simp [My.six]) (by simp [My.six]), _, rfl, ifFa (by decide) ?_⟩
        refine ⟨_, rfl, _, _, _, _, _, rfl, .ty _, (Ty.tup h2).x, isaN (by simp [My.six]) (by simp [My.six]), _, rfl, ifFa (by decide) ?_⟩
        refine ⟨_, rfl, _, _, _, _, _, rfl, .ty _, (Ty.tup h2).x, isaN (by simp [My.six]) (by simp [My.six]), _, rfl, ifFa (by decide) ?_⟩
        refine ⟨_, rfl, _, _, _, _, _, rfl, .ty _, (Ty.tup h2).x, isaN (by simp [My.six]) (by simp [My.six]), _, rfl, ifTr (by decide) ⟨_, rfl, _, _, _, _, _, rfl, .ty _, ty.x, isaN ty.six (by simp [My.six]), _, rfl, ?_⟩⟩
        have e : (m == "tuple" || m == "bool" && "tuple" == "int") = false := by cases ty <;> first | rfl | exact absurd rfl hm
        rw [e]
        exact (if_pos rfl).mpr (k _ (Same.refl _))
      | len _ h1 h2 hl =>
        refine ⟨_, rfl, rfl, _, rfl, ifD (fun e => by cases e) (fun _ => ?_)⟩
        refine ⟨_, rfl, _, _, _, _, _, rfl, .ty _, (Ty.tup h2).x, isaN (by simp [My.six]) (by simp [My.six]), _, rfl, ifFa (by decide) ?_⟩
        refine ⟨_, rfl, _, _, _, _, _, rfl, .ty _, (Ty.tup h2).x, isaN (by simp [My.six]) (by simp [My.six]), _, rfl, ifFa (by decide) ?_⟩
        refine ⟨_, rfl, _, _, _, _, _, rfl, .ty _, (Ty.tup h2).x, isaN (by simp [My.six]) (by simp [My.six]), _, rfl, ifFa (by decide) ?_⟩
        refine ⟨_, rfl, _, _, _, _, _, rfl, .ty _, (Ty.tup h2).x, isaN (by simp [My.six]) (by simp [My.six]), _, rfl, ifTr (by decide) ⟨_, rfl, _, _, _, _, _, rfl, .ty _, (Ty.tup h1).x, isaN (by simp [My.six]) (by simp [My.six]), _, rfl, ifFa (by decide) ?_⟩⟩
        refine ⟨_, rfl, _, _, _, _, _, rfl, .ty _, (Ty.tup h2).x, isaN (by simp [My.six]) (by simp [My.six]), _, rfl, ifFa (by decide) (ifFa rfl ?_)⟩
        refine ⟨_, rfl, _, _, rfl, .inr ⟨_, h1, rfl⟩, _, rfl, _, _, rfl, .inr ⟨_, h2, rfl⟩, rfl, _, rfl, ?_⟩
        exact ifND (fun _ => k _ (Same.refl _)) (fun e => absurd (by have e := V.int.inj e; omega) hl)
      | @tup _ a b xs ys bs h1 h2 hl hz hb h =>
        refine ⟨_, rfl, rfl, _, rfl, ifD (fun e => by cases e) (fun _ => ?_)⟩
        refine ⟨_, rfl, _, _, _, _, _, rfl, .ty _, (Ty.tup h2).x, isaN (by simp [My.six]) (by simp [My.six]), _, rfl, ifFa (by decide) ?_⟩
        refine ⟨_, rfl, _, _, _, _, _, rfl, .ty _, (Ty.tup h2).x, isaN (by simp [My.six]) (by simp [My.six]), _, rfl, ifFa (by decide) ?_⟩
        refine ⟨_, rfl, _, _, _, _, _, rfl, .ty _, (Ty.tup h2).x, isaN (by simp [My.six]) (by simp [My.six]), _, rfl, ifFa (by decide) ?_⟩
        refine ⟨_, rfl, _, _, _, _, _, rfl, .ty _, (Ty.tup h2).x, isaN (by simp [My.six]) (by simp [My.six]), _, rfl, ifTr (by decide) ⟨_, rfl, _, _, _, _, _, rfl, .ty _, (Ty.tup h1).x, isaN (by simp [My.six]) (by simp [My.six]), _, rfl, ifFa (by decide) ?_⟩⟩
        refine ⟨_, rfl, _, _, _, _, _, rfl, .ty _, (Ty.tup h2).x, isaN (by simp [My.six]) (by simp [My.six]), _, rfl, ifFa (by decide) (ifFa rfl ?_)⟩
        refine ⟨_, rfl, _, _, rfl, .inr ⟨_, h1, rfl⟩, _, rfl, _, _, rfl, .inr ⟨_, h2, rfl⟩, rfl, _, rfl, ?_⟩
        refine ifND (fun e => absurd (by rw [hl]) e) (fun _ => ?_)
        refine ⟨_, rfl, _, _, rfl, .inr ⟨_, h2, rfl⟩, ys.length, rfl, by omega, by omega, fun D hD => lc_range (lo := 0) (n := ys.length) (fun i H' => Same H H' ∧ H' D = some (.lst ((bs.take i).map V.bl))) ⟨same_new hD, upd_same⟩ ?_ ?_⟩
        · rintro i H1 hi ⟨hS, hD1⟩
          have hx := get_at (xs := xs) (i := i) (by omega)
          have hy := get_at (xs := ys) (i := i) (by omega)
          have he : bs[i]? = some bs[i] := List.getElem?_eq_getElem (by omega)
          refine ⟨rfl, ?_⟩
          refine ⟨_, rfl, _, rfl, .inr (.inl ⟨_, _, _, _, rfl, rfl, tSame hS h1, at_of (Int.zero_add _) hx, ?_⟩)⟩
          refine ⟨_, rfl, _, rfl, .inr (.inl ⟨_, _, _, _, rfl, rfl, tSame hS h2, at_of (Int.zero_add _) hy, ?_⟩)⟩
          refine ⟨_, _, _, rfl, (h i _ _ _ hx hy he).same hS, fun H2 hS2 => ?_⟩
          refine ⟨_, hS2.get hD1, by rw [List.length_map, List.length_take]; exact Nat.lt_of_le_of_lt (Nat.min_le_left _ _) (Nat.lt_of_lt_of_le (Nat.lt_of_lt_of_le hi hz) (by decide)), (hS.trans hS2).put hD, ?_⟩
          rw [upd_same, List.take_succ, he, List.map_append]
          rfl
        · rintro H1 ⟨hS, hD1⟩
          rw [List.take_of_length_le (by omega)] at hD1
          refine ⟨_, _, rfl, SqL.of hD1, ?_⟩
          exact k _ hS
theorem ok__law_point (T : Txt K mg) (TB : TxtB T base w) : FnOk P w K mg base CX0 2 T.a__law_point T.d__law_point ["stream", "far"] (fun vs H Q _ => ∃ (s : Addr) (far : Int) (b : Addr), vs = [.ref s, .int far] ∧ 0 ≤ far ∧ far ≤ 1000000 ∧ Strm H s b ∧ ∀ (a : Addr) (x y : Int) H', In far x y → Strm H' s b → But s H H' → SqT K H' a [.int x, .int y] → Q (.ref a) H') := by
  refine T.F__law_point.ok sc__law_point (fun vs H Q E h => ?_) (fun cdv A outer s H vs Q E hr h => ?_)
  · obtain ⟨s, far, b, rfl, f0, f1, S, k⟩ := h
    rfl
  · obtain ⟨s, far, b, rfl, f0, f1, S, k⟩ := h
    refine ⟨_, (pss_one (ps_ret (pe_tup (pa_cons (pe_op op_sub (pe_call (ok__law_next T TB) (hr.mono (by omega)) rfl T.m__law_next T.F__law_next.kp T.b__law_next .nil pass0 (pa_cons (pv 0) (pa_cons (pe_op op_add (pe_op op_mul pe_int (pv 1)) pe_int) pa_nil))) (pv 1)) (pa_cons (pe_op op_sub (pe_call (ok__law_next T TB) (hr.mono (by omega)) rfl T.m__law_next T.F__law_next.kp T.b__law_next .nil pass0 (pa_cons (pv 0) (pa_cons (pe_op op_add (pe_op op_mul pe_int (pv 1)) pe_int) pa_nil))) (pv 1)) pa_nil))))), ?_⟩
    refine ⟨_, rfl, _, rfl, _, _, rfl, rfl, .inl ⟨by decide, by decide⟩, _, _, rfl, rfl, _, _, _, rfl, by omega, by omega, S, fun d H1 d0 d1 S1 B1 => ?_⟩
    refine ⟨_, rfl, _, _, rfl, rfl, _, rfl, _, rfl, _, _, rfl, rfl, .inl ⟨by decide, by decide⟩, _, _, rfl, rfl, _, _, _, rfl, by omega, by omega, S1, fun e H2 e0 e1 S2 B2 => ?_⟩
    refine ⟨_, rfl, _, _, rfl, rfl, small rfl, fun p hp => ?_⟩
    exact k p (d - far) (e - far) _ ⟨by omega, by omega, by omega, by omega⟩ (S2.over hp) ((B1.trans B2).then_new hp) tHere
theorem ok__law_other (T : Txt K mg) (TB : TxtB T base w) : FnOk P w K mg base CX0 2 T.a__law_other T.d__law_other ["stream", "points", "hull"] (fun vs H Q _ => ∃ (s b a c : Addr) (zs ws : List Zp), vs = [.ref s, .ref a, .ref c] ∧ Strm H s b ∧ LnAt K H a zs ∧ LnAt K H c ws ∧ 1 ≤ zs.length ∧ zs.length ≤ 10 ∧ 1 ≤ ws.length ∧ ws.length ≤ 10 ∧ (∀ z ∈ ws, On z.2.1 (z.2.2 + 1)) ∧ ∀ (x : V) H', Strm H' s b → But s H H' → ((∃ (d : Addr) (vs : List Zp), x = .ref d ∧ LnAt K H' d vs ∧ vs.length ≤ 60) ∨ (∃ n, Ty K H' x n ∧ n ≠ "tuple")) → Q x H') := by
  refine T.F__law_other.ok sc__law_other (fun vs H Q E h => ?_) (fun cdv A outer s H vs Q E hr h => ?_)
  · obtain ⟨s, b, a, c, zs, ws, rfl, S, ha, hc, lz1, lz, lw1, lw, up, k⟩ := h
    rfl
  · obtain ⟨s, b, a, c, zs, ws, rfl, S, ha, hc, lz1, lz, lw1, lw, up, k⟩ := h
    refine ⟨_, (pss_cons (ps_set (i := 3) sc__law_other.nd rfl (Or.inl rfl) (pe_call (ok__law_next T TB) (hr.mono (by omega)) rfl T.m__law_next T.F__law_next.kp T.b__law_next .nil pass0 (pa_cons (pv 0) (pa_cons (pe_callB (call_lenKE (K := K) rfl) (by rfl) T.n_len (by decide +kernel) (pa_cons (pv 2) pa_nil)) pa_nil))))
      (pss_cons (ps_set (i := 4) sc__law_other.nd rfl (Or.inl rfl) (pe_call (ok__law_next T TB) (hr.mono (by omega)) rfl T.m__law_next T.F__law_next.kp T.b__law_next .nil pass0 (pa_cons (pv 0) (pa_cons pe_int pa_nil))))
      (pss_cons (ps_set (i := 5) sc__law_other.nd rfl (Or.inl rfl) (pe_ix (r := rIxT K) ix_tup (pv 1) (pe_call (ok__law_next T TB) (hr.mono (by omega)) rfl T.m__law_next T.F__law_next.kp T.b__law_next .nil pass0 (pa_cons (pv 0) (pa_cons (pe_callB (call_lenKE (K := K) rfl) (by rfl) T.n_len (by decide +kernel) (pa_cons (pv 1) pa_nil)) pa_nil))) (fun _ _ => rfl)))
      (pss_cons (ps_if (pt_cmpR op_eq (pv 4) pe_int (nomark _))
        (pss_one (ps_ret (pe_op op_catA (pe_slice sl_tupA (pv 2) po_none (po_some (pv 3))) (pe_slice sl_tupA (pv 2) (po_some (pe_op op_add (pv 3) pe_int)) po_none))))
        pss_nil)
      (pss_cons (ps_if (pt_cmpR op_eq (pv 4) pe_int (nomark _))
        (pss_one (ps_ret (pe_op op_catA (pe_op op_catA (pe_slice sl_tupA (pv 2) po_none (po_some (pv 3))) (pe_tup (pa_cons (pv 5) pa_nil))) (pe_slice sl_tupA (pv 2) (po_some (pv 3)) po_none))))
        pss_nil)
      (pss_cons (ps_if (pt_cmpR op_eq (pv 4) pe_int (nomark _))
        (pss_one (ps_ret (pe_op op_catA (pe_slice sl_tupA (pv 2) (po_some (pv 3)) po_none) (pe_slice sl_tupA (pv 2) po_none (po_some (pv 3))))))
        pss_nil)
      (pss_cons (ps_if (pt_cmpR op_eq (pv 4) pe_int (nomark _))
        (pss_one (ps_ret (pe_revA (pv 2))))
        pss_nil)
      (pss_cons (ps_if (pt_cmpR op_eq (pv 4) pe_int (nomark _))
        (pss_one (ps_ret (pe_op op_catA (pe_slice sl_tupA (pv 2) po_none (po_some pe_int)) (pe_revA (pe_slice sl_tupA (pv 2) (po_some pe_int) po_none)))))
        pss_nil)
      (pss_cons (ps_if (pt_cmpR op_eq (pv 4) pe_int (nomark _))
        (pss_one (ps_ret (pe_op op_catA (pe_op op_catA (pe_slice sl_tupA (pv 2) po_none (po_some (pv 3))) (pe_tup (pa_cons (pe_tup (pa_cons (pe_ix (r := rIxT K) ix_tup (pe_ix (r := rIxT K) ix_tup (pv 2) (pv 3) (fun _ _ => rfl)) pe_int (fun _ _ => rfl)) (pa_cons (pe_op op_add (pe_ix (r := rIxT K) ix_tup (pe_ix (r := rIxT K) ix_tup (pv 2) (pv 3) (fun _ _ => rfl)) pe_int (fun _ _ => rfl)) pe_int) pa_nil))) pa_nil))) (pe_slice sl_tupA (pv 2) (po_some (pe_op op_add (pv 3) pe_int)) po_none))))
        pss_nil)
      (pss_cons (ps_if (pt_cmpR op_eq (pv 4) pe_int (nomark _))
        (pss_one (ps_ret (pe_ix (r := rIxL K) ix_list (pe_lst (pa_cons (pe_callTy call_list_of (by rfl) T.n_list (by decide +kernel) (pa_cons (pv 2) pa_nil)) (pa_cons (pe_tup pa_nil) (pa_cons pe_non (pa_cons (pe_callTy call_tuple_of (by rfl) T.n_tuple (by decide +kernel) (pa_cons (pe_callB (SrtT.cr_sortT hr.units) (by rfl) T.n_sorted (by decide +kernel) (pa_cons (pv 1) pa_nil)) pa_nil)) (pa_cons (pe_op op_catA (pv 2) (pv 2)) pa_nil)))))) (pe_call (ok__law_next T TB) (hr.mono (by omega)) rfl T.m__law_next T.F__law_next.kp T.b__law_next .nil pass0 (pa_cons (pv 0) (pa_cons pe_int pa_nil))) (fun _ _ => rfl))))
        pss_nil)
      (pss_cons (ps_if (pt_cmpR op_eq (pv 4) pe_int (nomark _))
        (pss_one (ps_ret (pe_callTy call_tuple_of (by rfl) T.n_tuple (by decide +kernel) (pa_cons (pe_lc (own := [("k", 6)]) (g := gName 6) (tt := tYes) rfl sc__law_other.nd (pi_range1 rfl T.n_range (pa_cons (pe_callB (call_lenKE (K := K) rfl) (by rfl) T.n_len (by decide +kernel) (pa_cons (pv 2) pa_nil)) pa_nil)) (blkOk_by (own := [("k", 6)]) (N := N__law_other) (sc := defScope s__law_other) (by decide +kernel)) (fun _ _ _ _ _ => pg_name (i := 6) sc__law_other.nd rfl (Or.inl rfl)) (fun _ _ _ _ _ => pts_nil) (fun _ _ _ _ _ => (pe_ix (r := rIxT K) ix_tup (pv 2) (pe_op op_modN (pe_callTy call_int1 (by rfl) T.n_int (by decide +kernel) (pa_cons (pe_op op_mul pe_int (pv 6)) pa_nil)) (pe_callB (call_lenKE (K := K) rfl) (by rfl) T.n_len (by decide +kernel) (pa_cons (pv 2) pa_nil))) (fun _ _ => rfl)))) pa_nil))))
        pss_nil)
      (pss_one (ps_ret (pe_callTy call_tuple_of (by rfl) T.n_tuple (by decide +kernel) (pa_cons (pe_lc (own := [("k", 6)]) (g := gName 6) (tt := tYes) rfl sc__law_other.nd (pi_range1 rfl T.n_range (pa_cons (pe_op op_add pe_int (pe_call (ok__law_next T TB) (hr.mono (by omega)) rfl T.m__law_next T.F__law_next.kp T.b__law_next .nil pass0 (pa_cons (pv 0) (pa_cons pe_int pa_nil)))) pa_nil)) (blkOk_by (own := [("k", 6)]) (N := N__law_other) (sc := defScope s__law_other) (by decide +kernel)) (fun _ _ _ _ _ => pg_name (i := 6) sc__law_other.nd rfl (Or.inl rfl)) (fun _ _ _ _ _ => pts_nil) (fun _ _ _ _ _ => (pe_ix (r := rIxT K) ix_tup (pv 1) (pe_call (ok__law_next T TB) (hr.mono (by omega)) rfl T.m__law_next T.F__law_next.kp T.b__law_next .nil pass0 (pa_cons (pv 0) (pa_cons (pe_callB (call_lenKE (K := K) rfl) (by rfl) T.n_len (by decide +kernel) (pa_cons (pv 1) pa_nil)) pa_nil))) (fun _ _ => rfl)))) pa_nil))))))))))))))), ?_⟩
    have ln : (refs zs).length = zs.length := refs_len
    have lm : (refs ws).length = ws.length := refs_len
    refine ⟨_, rfl, _, rfl, _, _, rfl, .inr ⟨_, hc.t, rfl⟩, _, _, _, rfl, by omega, by omega, S, fun jt H1 t0 t1 S1 B1 => ?_⟩
    refine ⟨_, rfl, _, _, _, rfl, by decide, by decide, S1, fun pk H2 p0 p1 S2 B2 => ?_⟩
    have B12 := B1.trans B2
    have ha2 := ha.but B12 S
    refine ⟨_, rfl, _, rfl, _, rfl, _, _, rfl, .inr ⟨_, ha2.t, rfl⟩, _, _, _, rfl, by omega, by omega, S2, fun jp H3 q0 q1 S3 B3 => ?_⟩
    have B := B12.trans B3
    have ha := ha.but B S
    have hc := hc.but B S
    obtain ⟨u, mu, hu, -⟩ := at_pt (zs := zs) (j := jp) (k := (jp + zs.length).toNat) (by omega) (by omega)
    refine ⟨_, _, _, _, rfl, rfl, ha.t, hu, ?_⟩
    have k : ∀ (x : V) H', Strm H' s b → But s H3 H' → ((∃ (d : Addr) (vs : List Zp), x = .ref d ∧ LnAt K H' d vs ∧ vs.length ≤ 60) ∨ (∃ n, Ty K H' x n ∧ n ≠ "tuple")) → Q x H' := fun x H' S' B' h => k x H' S' (B.trans B') h
    have kp : ∀ (d : Addr) (vs : List Zp) H', Same H3 H' → LnAt K H' d vs → vs.length ≤ 60 → Q (.ref d) H' := fun d vs H' s h l => k _ H' (S3.same s) (But.of_same s) (.inl ⟨d, vs, rfl, h, l⟩)
    have big : 1000 ≤ sizeLine := by decide
    clear B B12 B1 B2 B3 S S1 S2 ha2
    have kpM : ∀ (d : Addr) (cs : List Zp) H', Same H3 H' → SqT K H' d (refs cs) → (∀ z ∈ cs, z ∈ ws ∨ z ∈ zs) → cs.length ≤ 60 → Q (.ref d) H' := fun d cs H' s h m l => kp d cs H' s ⟨h, fun z hz => (m z hz).elim (fun y => tSame s (hc.p z y)) fun y => tSame s (ha.p z y), fun z hz => (m z hz).elim (hc.on z) (ha.on z)⟩ l
    refine ⟨_, rfl, rfl, _, rfl, ifD (fun e => ?_) (fun e => ?_)⟩
    · clear e
      refine ⟨_, rfl, _, rfl, _, rfl, ?_⟩
      refine slA_of hc.t fun v1 G1 s1 h1 => ?_
      refine ⟨_, rfl, _, rfl, _, _, rfl, rfl, _, rfl, ?_⟩
      refine noPart (slA_of (hc.same s1).t fun v2 G2 s2 h2 => ?_)
      obtain ⟨cs, e1, m1, l1⟩ := cut_refs ws none (some jt)
      obtain ⟨ds, e2, m2, l2⟩ := cut_refs ws (some (jt + 1)) none
      rw [e1] at h1
      rw [e2] at h2
      refine catA_of (tSame s2 h1) h2 (by rw [refs_len, refs_len]; omega) fun v3 G3 s3 h3 => ?_
      rw [← refs_app] at h3
      exact kpM v3 _ G3 ((s1.trans s2).trans s3) h3 (fun z hz => .inl ((List.mem_append.mp hz).elim (m1 z) (m2 z))) (by rw [List.length_append]; omega)
    clear e
    refine ⟨_, rfl, rfl, _, rfl, ifD (fun e => ?_) (fun e => ?_)⟩
    · clear e
      refine ⟨_, rfl, _, rfl, _, rfl, ?_⟩
      refine slA_of hc.t fun v1 G1 s1 h1 => ?_
      refine ⟨_, rfl, small rfl, fun v0 w0 => ?_⟩
      have s0 := same_new (o := HO.tup [V.ref u.1]) w0
      have h0 : SqT K (upd G1 v0 (.tup [V.ref u.1])) v0 (refs [u]) := tHere
      obtain ⟨cs, e1, m1, l1⟩ := cut_refs ws none (some jt)
      obtain ⟨ds, e2, m2, l2⟩ := cut_refs ws (some jt) none
      rw [e1] at h1
      refine catA_of (tSame s0 h1) h0 (by rw [refs_len, refs_len, List.length_singleton]; omega) fun v3 G3 s3 h3 => ?_
      rw [← refs_app] at h3
      have s13 := (s1.trans s0).trans s3
      refine ⟨_, rfl, _, rfl, _, rfl, ?_⟩
      refine noPart (slA_of (hc.same s13).t fun v2 G2 s2 h2 => ?_)
      rw [e2] at h2
      refine catA_of (tSame s2 h3) h2 (by rw [refs_len, refs_len, List.length_append, List.length_singleton]; omega) fun v4 G4 s4 h4 => ?_
      rw [← refs_app] at h4
      refine kpM v4 _ G4 ((s13.trans s2).trans s4) h4 (fun z hz => ?_) (by rw [List.length_append, List.length_append, List.length_singleton]; omega)
      rcases List.mem_append.mp hz with h | h
      · rcases List.mem_append.mp h with h | h
        · exact .inl (m1 z h)
        · rw [List.mem_singleton.mp h]; exact .inr mu
      · exact .inl (m2 z h)
    clear e
    refine ⟨_, rfl, rfl, _, rfl, ifD (fun e => ?_) (fun e => ?_)⟩
    · clear e
      refine ⟨_, rfl, _, rfl, _, rfl, ?_⟩
      refine noPart (slA_of hc.t fun v1 G1 s1 h1 => ?_)
      refine ⟨_, rfl, _, rfl, _, rfl, ?_⟩
      refine slA_of (hc.same s1).t fun v2 G2 s2 h2 => ?_
      obtain ⟨cs, e1, m1, l1⟩ := cut_refs ws (some jt) none
      obtain ⟨ds, e2, m2, l2⟩ := cut_refs ws none (some jt)
      rw [e1] at h1
      rw [e2] at h2
      refine catA_of (tSame s2 h1) h2 (by rw [refs_len, refs_len]; omega) fun v3 G3 s3 h3 => ?_
      rw [← refs_app] at h3
      exact kpM v3 _ G3 ((s1.trans s2).trans s3) h3 (fun z hz => .inl ((List.mem_append.mp hz).elim (m1 z) (m2 z))) (by rw [List.length_append]; omega)
    clear e
    refine ⟨_, rfl, rfl, _, rfl, ifD (fun e => ?_) (fun e => ?_)⟩
    · clear e
      refine ⟨_, rfl, c, refs ws, rfl, hc.t, fun v1 w1 => ?_⟩
      rw [show (refs ws).reverse = refs ws.reverse from (List.map_reverse).symm]
      exact kpM v1 _ _ (same_new w1) tHere (fun z hz => .inl (List.mem_reverse.mp hz)) (by rw [List.length_reverse]; omega)
    clear e
    refine ⟨_, rfl, rfl, _, rfl, ifD (fun e => ?_) (fun e => ?_)⟩
    · clear e
      refine ⟨_, rfl, _, rfl, ?_⟩
      refine slA_of hc.t fun v1 G1 s1 h1 => ?_
      refine ⟨_, rfl, _, rfl, ?_⟩
      refine noPart (slA_of (hc.same s1).t fun v2 G2 s2 h2 => ?_)
      obtain ⟨cs, e1, m1, l1⟩ := cut_refs ws none (some 1)
      obtain ⟨ds, e2, m2, l2⟩ := cut_refs ws (some 1) none
      rw [e1] at h1
      rw [e2] at h2
      refine ⟨v2, refs ds, rfl, h2, fun v0 w0 => ?_⟩
      rw [show (refs ds).reverse = refs ds.reverse from (List.map_reverse).symm]
      have s0 := same_new (o := HO.tup (refs ds.reverse)) w0
      refine catA_of (tSame (s2.trans s0) h1) tHere (by rw [refs_len, refs_len, List.length_reverse]; omega) fun v3 G3 s3 h3 => ?_
      rw [← refs_app] at h3
      exact kpM v3 _ G3 (((s1.trans s2).trans s0).trans s3) h3 (fun z hz => .inl ((List.mem_append.mp hz).elim (m1 z) (fun h => m2 z (List.mem_reverse.mp h)))) (by rw [List.length_append, List.length_reverse]; omega)
    clear e
    refine ⟨_, rfl, rfl, _, rfl, ifD (fun e => ?_) (fun e => ?_)⟩
    · clear e
      obtain ⟨v, mv, hv, -⟩ := at_pt (zs := ws) (j := jt) (k := (jt + ws.length).toNat) (by omega) (by omega)
      refine ⟨_, rfl, _, rfl, _, rfl, ?_⟩
      refine slA_of hc.t fun v1 G1 s1 h1 => ?_
      have hc1 := hc.same s1
      refine ⟨_, rfl, _, rfl, _, _, _, _, rfl, rfl, hc1.t, hv, _, _, _, _, rfl, rfl, hc1.p v mv, at0, ?_⟩
      refine ⟨_, rfl, _, rfl, _, _, _, _, rfl, rfl, hc1.t, hv, _, _, _, _, rfl, rfl, hc1.p v mv, at1, _, _, rfl, rfl, small rfl, fun v5 w5 => ?_⟩
      have s5 := same_new (o := HO.tup [V.int v.2.1, .int (v.2.2 + 1)]) w5
      refine ⟨small rfl, fun v0 w0 => ?_⟩
      have s0 := same_new (o := HO.tup [V.ref v5]) w0
      have h0 := tHere (K := K) (H := upd G1 v5 (.tup [V.int v.2.1, .int (v.2.2 + 1)])) (p := v0) (xs := refs [(v5, v.2.1, v.2.2 + 1)])
      obtain ⟨cs, e1, m1, l1⟩ := cut_refs ws none (some jt)
      obtain ⟨ds, e2, m2, l2⟩ := cut_refs ws (some (jt + 1)) none
      rw [e1] at h1
      refine catA_of (tSame (s5.trans s0) h1) h0 (by rw [refs_len, refs_len, List.length_singleton]; omega) fun v3 G3 s3 h3 => ?_
      rw [← refs_app] at h3
      have s13 := (s1.trans (s5.trans s0)).trans s3
      refine ⟨_, rfl, _, rfl, _, _, rfl, rfl, _, rfl, ?_⟩
      refine noPart (slA_of (hc.same s13).t fun v2 G2 s2 h2 => ?_)
      rw [e2] at h2
      refine catA_of (tSame s2 h3) h2 (by rw [refs_len, refs_len, List.length_append, List.length_singleton]; omega) fun v4 G4 s4 h4 => ?_
      rw [← refs_app] at h4
      have s14 := (s13.trans s2).trans s4
      have s54 := ((s0.trans s3).trans s2).trans s4
      have mem : ∀ z ∈ (cs ++ [(v5, v.2.1, v.2.2 + 1)]) ++ ds, z ∈ ws ∨ z = (v5, v.2.1, v.2.2 + 1) := fun z hz => by
        rcases List.mem_append.mp hz with h | h
        · rcases List.mem_append.mp h with h | h
          · exact .inl (m1 z h)
          · exact .inr (List.mem_singleton.mp h)
        · exact .inl (m2 z h)
      refine kp v4 _ G4 s14 ⟨h4, fun z hz => ?_, fun z hz => ?_⟩ (by rw [List.length_append, List.length_append, List.length_singleton]; omega)
      · rcases mem z hz with h | rfl
        · exact tSame s14 (hc.p z h)
        · exact tSame s54 tHere
      · rcases mem z hz with h | rfl
        · exact hc.on z h
        · exact up v mv
    clear e
    refine ⟨_, rfl, rfl, _, rfl, ifD (fun e => ?_) (fun e => ?_)⟩
    · clear e
      refine ⟨_, rfl, c, refs ws, rfl, .inr hc.t, fun l1 w1 => ?_⟩
      have s1 := same_new (o := HO.lst (refs ws)) w1
      refine ⟨small rfl, fun v2 w2 => ?_⟩
      have s2 := same_new (o := HO.tup []) w2
      have s12 := s1.trans s2
      refine ⟨_, rfl, a, zs, rfl, (ha.same s12).t, by omega, (ha.same s12).p, fun l3 w3 => ?_⟩
      have s3 := same_new (o := HO.lst ((zs.mergeSort fun p q => decide (p.2.1 < q.2.1 ∨ (p.2.1 = q.2.1 ∧ p.2.2 ≤ q.2.2))).map My.pnV)) w3
      refine ⟨_, _, rfl, .inl ⟨SqL.of upd_same, fun v4 w4 => ?_⟩⟩
      have s4 := same_new (o := HO.tup ((zs.mergeSort fun p q => decide (p.2.1 < q.2.1 ∨ (p.2.1 = q.2.1 ∧ p.2.2 ≤ q.2.2))).map My.pnV)) w4
      have s14 := (s12.trans s3).trans s4
      refine ⟨_, rfl, _, rfl, catA_of (hc.same s14).t (hc.same s14).t (by omega) fun v5 G5 s5 h5 => ?_⟩
      refine ⟨small rfl, fun L wL => ?_⟩
      have sL := same_new (o := HO.lst [V.ref l1, .ref v2, .non, .ref v4, .ref v5]) wL
      have s15 := (s14.trans s5).trans sL
      have S5 := S3.same s15
      refine ⟨_, rfl, _, _, _, rfl, by decide, by decide, S5, fun d H6 d0 d1 S6 B6 => ?_⟩
      have hL := rBut B6 wL (S3.same (s14.trans s5))
      have x1 : SqL K H6 l1 (refs ws) := by
        refine SqL.of (B6.get ?_ ((((((s2.trans s3).trans s4).trans s5).trans sL)).get upd_same))
        exact S3.new1 w1
      have t2 : SqT K H6 v2 (refs []) := tButS B6 S5 (tSame (((s3.trans s4).trans s5).trans sL) tHere)
      have t4 := tButS B6 S5 (tSame (s5.trans sL) (tHere (K := K) (p := v4) (xs := refs (zs.mergeSort fun p q => decide (p.2.1 < q.2.1 ∨ (p.2.1 = q.2.1 ∧ p.2.2 ≤ q.2.2))))))
      have t5 := tButS B6 S5 (tSame sL h5)
      rw [← refs_app] at t5
      have hc6 := (hc.same s15).but B6 S5
      have ha6 := (ha.same s15).but B6 S5
      have B36 := (But.of_same (s := s) s15).trans B6
      rcases (show d = 0 ∨ d = 1 ∨ d = 2 ∨ d = 3 ∨ d = 4 by omega) with rfl | rfl | rfl | rfl | rfl
      · exact ⟨_, _, _, _, rfl, rfl, SqL.of hL, rfl, k _ _ S6 B36 (.inr ⟨"list", .lst x1, by decide⟩)⟩
      · exact ⟨_, _, _, _, rfl, rfl, SqL.of hL, rfl, k _ _ S6 B36 (.inl ⟨v2, [], rfl, ⟨t2, (fun z h => by cases h), (fun z h => by cases h)⟩, by simp⟩)⟩
      · exact ⟨_, _, _, _, rfl, rfl, SqL.of hL, rfl, k _ _ S6 B36 (.inr ⟨"NoneType", .non, by decide⟩)⟩
      · refine ⟨_, _, _, _, rfl, rfl, SqL.of hL, rfl, k _ _ S6 B36 (.inl ⟨v4, _, rfl, ⟨t4, fun z h => ?_, fun z h => ?_⟩, ?_⟩)⟩
        · exact ha6.p z (List.mem_mergeSort.mp h)
        · exact ha6.on z (List.mem_mergeSort.mp h)
        · rw [List.length_mergeSort]; omega
      · refine ⟨_, _, _, _, rfl, rfl, SqL.of hL, rfl, k _ _ S6 B36 (.inl ⟨v5, _, rfl, ⟨t5, fun z h => ?_, fun z h => ?_⟩, ?_⟩)⟩
        · exact hc6.p z ((List.mem_append.mp h).elim id id)
        · exact hc6.on z ((List.mem_append.mp h).elim id id)
        · rw [List.length_append]; omega
    clear e
    refine ⟨_, rfl, rfl, _, rfl, ifD (fun e => ?_) (fun e => ?_)⟩
    · clear e
      refine ⟨_, rfl, _, _, rfl, .inr ⟨_, hc.t, rfl⟩, (refs ws).length, rfl, by omega, by omega, fun D hD => ?_⟩
      have nD := hD
      refine walk_any (walk_range (lo := 0) (n := (refs ws).length)) (fun i H' => Same H3 H' ∧ ∃ cs : List Zp, H' D = some (.lst (refs cs)) ∧ cs.length = i ∧ ∀ z ∈ cs, z ∈ ws) ⟨same_new hD, [], upd_same, rfl, fun z h => by cases h⟩ (fun i H' _ h => trivial) ?_ ?_
      · rintro i x H5 H6 hi ⟨s5, cs, hD5, hl, hm⟩ ⟨rfl, rfl⟩
        have hc5 := hc.same s5
        refine ⟨rfl, yesI ?_⟩
        refine iteT ?_
        obtain ⟨v, mv, hv, -⟩ := at_pt (zs := ws) (j := (2 * (0 + (i : Int))).fmod ((refs ws).length : Int)) (k := ((2 * (0 + (i : Int))).fmod ((refs ws).length : Int) + ws.length).toNat) (by have := Int.fmod_nonneg_of_pos (2 * (0 + (i : Int))) (show (0 : Int) < ((refs ws).length : Int) by omega); omega) (by have := Int.fmod_lt_of_pos (2 * (0 + (i : Int))) (show (0 : Int) < ((refs ws).length : Int) by omega); omega)
        refine ⟨_, rfl, _, rfl, _, _, rfl, rfl, .inl ⟨by omega, by omega⟩, .inl ⟨_, rfl, _, rfl, _, _, rfl, .inr ⟨_, hc5.t, rfl⟩, _, _, rfl, rfl, by omega, _, _, _, _, rfl, rfl, hc5.t, hv, ?_⟩⟩
        refine ⟨_, hD5, by rw [refs_len, hl]; exact line_of (by omega), s5.put hD, cs ++ [v], by rw [upd_same, refs_app]; rfl, by rw [List.length_append, hl]; rfl, fun z h => ?_⟩
        rcases List.mem_append.mp h with h | h
        · exact hm z h
        · rw [List.mem_singleton.mp h]; exact mv
      rintro H5 ⟨s5, cs, hD5, hl, hm⟩
      refine ⟨_, _, rfl, .inl ⟨SqL.of hD5, fun v4 w4 => ?_⟩⟩
      exact kpM v4 cs _ (s5.trans (same_new w4)) tHere (fun z h => .inl (hm z h)) (by omega)
    clear e
    try unfold tNext
    try dsimp only
    refine ⟨_, rfl, _, _, _, rfl, by decide, by decide, S3, fun d H4 d0 d1 S4 B4 => ?_⟩
    obtain ⟨n, en⟩ : ∃ n : Nat, 1 + d = (n : Int) := ⟨(1 + d).toNat, by omega⟩
    refine ⟨_, _, rfl, rfl, n, congrArg (fun x => [V.int x]) en, by omega, by omega, fun D hD => ?_⟩
    have nD1 : D ≠ s := S4.new1 hD
    have nD2 : D ≠ b := S4.new2 hD
    refine walk_any (walk_range (lo := 0) (n := n)) (fun i H' => Strm H' s b ∧ But s H4 H' ∧ ∃ cs : List Zp, H' D = some (.lst (refs cs)) ∧ cs.length = i ∧ ∀ z ∈ cs, z ∈ zs) ⟨S4.over hD, But.new hD, [], upd_same, rfl, fun z h => by cases h⟩ (fun i H' _ h => trivial) ?_ ?_
    · rintro i x H5 H6 hi ⟨S5, B5, cs, hD5, hl, hm⟩ ⟨rfl, rfl⟩
      have ha5 := ha.but (B4.trans B5) S3
      refine ⟨rfl, yesI ?_⟩
      refine iteT ?_
      refine ⟨_, rfl, _, rfl, _, rfl, _, _, rfl, .inr ⟨_, ha5.t, rfl⟩, _, _, _, rfl, by omega, by omega, S5, fun d6 H7 e0 e1 S7 B7 => ?_⟩
      have ha7 := ha5.but B7 S5
      have hD7 := B7.get nD1 hD5
      obtain ⟨v, mv, hv, -⟩ := at_pt (zs := zs) (j := d6) (k := (d6 + zs.length).toNat) (by omega) (by omega)
      refine ⟨_, _, _, _, rfl, rfl, ha7.t, hv, ?_⟩
      refine ⟨_, hD7, by rw [refs_len, hl]; exact line_of (by omega), S7.at nD1 nD2, (B5.trans B7).put hD, cs ++ [v], by rw [upd_same, refs_app]; rfl, by rw [List.length_append, hl]; rfl, fun z h => ?_⟩
      rcases List.mem_append.mp h with h | h
      · exact hm z h
      · rw [List.mem_singleton.mp h]; exact mv
    rintro H5 ⟨S5, B5, cs, hD5, hl, hm⟩
    refine ⟨_, _, rfl, .inl ⟨SqL.of hD5, fun v4 w4 => ?_⟩⟩
    have ha5 := ha.but (B4.trans B5) S3
    exact k _ _ (S5.over w4) ((B4.trans B5).then_new w4) (.inl ⟨v4, cs, rfl, ⟨tHere, fun z h => tOver w4 (ha5.p z (hm z h)), fun z h => ha5.on z (hm z h)⟩, by omega⟩)
theorem ok_law (T : Txt K mg) (TB : TxtB T base w) : FnOk P w K mg base CX0 12 T.a_law T.d_law ["script"] (spLawT K T.ts) := by
  refine T.F_law.ok sc_law (fun vs H Q E h => ?_) (fun cdv A outer s H vs Q E hr h => ?_)
  · obtain ⟨w0, ns, rfl, hS, hlen, tb, k⟩ := h
    rfl
  · obtain ⟨w0, ns, rfl, hS, hlen, tb, k⟩ := h
    refine ⟨_, (pss_cons (ps_set (i := 1) sc_law.nd rfl (Or.inr rfl) (pe_call (ok__law_stream T TB) (hr.mono (by omega)) rfl T.m__law_stream T.F__law_stream.kp T.b__law_stream .nil pass0 (pa_cons (pv 0) pa_nil)))
      (pss_cons (ps_set (i := 2) sc_law.nd rfl (Or.inr rfl) (pe_ix (r := rIxL K) ix_list (pe_lst (pa_cons pe_int (pa_cons pe_int (pa_cons pe_int pa_nil)))) (pe_call (ok__law_next T TB) (hr.mono (by omega)) rfl T.m__law_next T.F__law_next.kp T.b__law_next .nil pass0 (pa_cons (pv 1) (pa_cons pe_int pa_nil))) (fun _ _ => rfl)))
      (pss_cons (ps_setLc (i := 3) (own := [("k", 7)]) (g := gName 7) (tt := tYes) rfl sc_law.nd rfl rfl (sw_true rfl rfl rfl (by decide +kernel)) (pi_range1 rfl T.n_range (pa_cons (pe_op op_add pe_int (pe_call (ok__law_next T TB) (hr.mono (by omega)) rfl T.m__law_next T.F__law_next.kp T.b__law_next .nil pass0 (pa_cons (pv 1) (pa_cons pe_int pa_nil)))) pa_nil)) (blkOk_by (own := [("k", 7)]) (N := N_law) (sc := defScope s_law) (by decide +kernel)) (fun _ _ _ _ _ => pg_name (i := 7) sc_law.nd rfl (Or.inl rfl)) (fun _ _ _ _ _ => pts_nil) (fun _ _ _ _ _ => (pe_call (ok__law_point T TB) (hr.mono (by omega)) rfl T.m__law_point T.F__law_point.kp T.b__law_point .nil pass0 (pa_cons (pv 1) (pa_cons (pv 2) pa_nil)))))
      (C8.pss_cut (ps_if (pt_cmpR op_eq (pe_call (ok__law_next T TB) (hr.mono (by omega)) rfl T.m__law_next T.F__law_next.kp T.b__law_next .nil pass0 (pa_cons (pv 1) (pa_cons pe_int pa_nil))) pe_int (nomark _))
        (pss_one (ps_setLc (i := 3) (own := [("k", 7)]) (g := gName 7) (tt := tYes) rfl sc_law.nd rfl rfl (sw_true rfl rfl rfl (by decide +kernel)) (pi_list (pe_lc (own := [("p", 8)]) (g := gName 8) (tt := tYes) rfl sc_law.nd (pi_list (pv 3)) (blkOk_by (own := [("p", 8)]) (N := N_law) (sc := defScope s_law) (by decide +kernel)) (fun _ _ _ _ _ => pg_name (i := 8) sc_law.nd rfl (Or.inl rfl)) (fun _ _ _ _ _ => pts_nil) (fun _ _ _ _ _ => (pe_call (ok__law_next T TB) (hr.mono (by omega)) rfl T.m__law_next T.F__law_next.kp T.b__law_next .nil pass0 (pa_cons (pv 1) (pa_cons pe_int pa_nil)))))) (blkOk_by (own := [("k", 7)]) (N := N_law) (sc := defScope s_law) (by decide +kernel)) (fun _ _ _ _ _ => pg_name (i := 7) sc_law.nd rfl (Or.inl rfl)) (fun _ _ _ _ _ => pts_nil) (fun _ _ _ _ _ => (pe_tup (pa_cons (pe_op op_mul pe_int (pv 7)) (pa_cons (pe_op op_sub pe_int (pv 7)) pa_nil))))))
        pss_nil)
      (pss_cons (ps_set (i := 3) sc_law.nd rfl (Or.inl rfl) (pe_callTy call_tuple_ofN (by rfl) T.n_tuple (by decide +kernel) (pa_cons (pv 3) pa_nil)))
      (pss_cons (ps_set (i := 4) sc_law.nd rfl (Or.inl rfl) (pe_call (ok_hull_of T TB) (hr.mono (by omega)) rfl T.m_hull_of T.F_hull_of.kp T.b_hull_of .nil pass0 (pa_cons (pv 3) pa_nil)))
      (pss_cons (ps_if (pt_cmpR op_isnot_bl (pe_call (ok_is_hull T TB) (hr.mono (by omega)) rfl T.m_is_hull T.F_is_hull.kp T.b_is_hull .nil pass0 (pa_cons (pv 3) (pa_cons (pv 4) pa_nil))) pe_bl (nomark _))
        (pss_one (ps_ret pe_bl))
        pss_nil)
      (pss_cons (ps_set (i := 5) sc_law.nd rfl (Or.inl rfl) (pe_call (ok__law_other T TB) (hr.mono (by omega)) rfl T.m__law_other T.F__law_other.kp T.b__law_other .nil pass0 (pa_cons (pv 1) (pa_cons (pv 3) (pa_cons (pv 4) pa_nil)))))
      (pss_cons (ps_set (i := 6) sc_law.nd rfl (Or.inl rfl) (pe_call (ok_is_hull T TB) (hr.mono (by omega)) rfl T.m_is_hull T.F_is_hull.kp T.b_is_hull .nil pass0 (pa_cons (pv 3) (pa_cons (pv 5) pa_nil))))
      (pss_one (ps_ret (pe_and (pe_callB call_isi (by rfl) T.n_isinstance (by decide +kernel) (pa_cons (pv 6) (pa_cons (pe_bltn (v := .ty "bool") (by rfl) T.n_bool (by decide +kernel) rfl) pa_nil))) (pe_one (pe_cmpR op_eq (pv 6) (pe_call (ok__law_equal T TB 4) (hr.mono (by omega)) rfl T.m__law_equal T.F__law_equal.kp T.b__law_equal .nil pass0 (pa_cons (pv 5) (pa_cons (pv 4) pa_nil))) (nomark _))))))))))))))), ?_⟩
    have fin := k
    refine ⟨_, rfl, _, ns, rfl, hS, fun H1 s b e1 n1 S1 => ?_⟩
    have tb := tb.same e1
    refine ⟨small rfl, fun L wL => ?_⟩
    have tb := tb.over (o := HO.lst [V.int 2, V.int 4, V.int 9]) wL
    refine ⟨_, rfl, _, _, _, rfl, by decide, by decide, S1.over wL, fun d H2 d0 d1 S2 B2 => ?_⟩
    have tb := tb.but B2 (S1.over wL).lst
    obtain ⟨far, hv, f2, f9⟩ : ∃ far : Int, atI [V.int 2, V.int 4, V.int 9] d = some (.int far) ∧ 2 ≤ far ∧ far ≤ 9 := by
      rcases (show d = 0 ∨ d = 1 ∨ d = 2 by omega) with rfl | rfl | rfl
      · exact ⟨2, rfl, by decide, by decide⟩
      · exact ⟨4, rfl, by decide, by decide⟩
      · exact ⟨9, rfl, by decide, by decide⟩
    refine ⟨_, _, _, _, rfl, rfl, SqL.of (rBut B2 wL S1), hv, ?_⟩
    refine ⟨_, rfl, _, _, _, rfl, by decide, by decide, S2, fun j H3 j0 j1 S3 B3 => ?_⟩
    have tb := tb.but B3 S2.lst
    clear B2 B3 S1 S2 wL hv hS e1 n1
    obtain ⟨n, en⟩ : ∃ n : Nat, 1 + j = (n : Int) := ⟨(1 + j).toNat, by omega⟩
    refine ⟨_, _, rfl, rfl, n, congrArg (fun x => [V.int x]) en, by omega, by omega, fun D hD => ?_⟩
    have nD : D ≠ s := S3.new1 hD
    have mD : D ≠ b := S3.new2 hD
    refine walk_any (walk_range (lo := 0) (n := n)) (fun i H' => ∃ zs : List Zp, Strm H' s b ∧ Tbs T.ts H' ∧ H' D = some (.lst (refs zs)) ∧ zs.length = i ∧ Pts K H' zs ∧ ∀ z ∈ zs, In far z.2.1 z.2.2) ⟨[], S3.over hD, tb.over hD, upd_same, rfl, Pts.nil, (fun z h => by cases h)⟩ (fun i H' _ h => trivial) ?_ ?_
    · rintro i x H1 H2 hi ⟨zs, S1, tb, hD1, hl, hp, hin⟩ ⟨rfl, rfl⟩
      refine ⟨rfl, yesI ?_⟩
      refine iteT ?_
      refine ⟨_, rfl, _, rfl, _, _, _, rfl, by omega, by omega, S1, fun a1 x1 y1 H3 i1 S3 B3 hp3 => ?_⟩
      have hD3 := B3.get nD hD1
      have tb := tb.but B3 S1.lst
      refine ⟨_, hD3, by rw [List.length_map, hl]; exact line_of (by omega), zs ++ [(a1, x1, y1)], S3.at nD mD, tb.put ⟨_, hD3⟩, by rw [upd_same, refs_app]; rfl, by rw [List.length_append, hl]; rfl, ((hp.but B3 S1).at ⟨_, hD3⟩).app (.one (tAt ⟨_, hD3⟩ hp3)), fun z h => ?_⟩
      rcases List.mem_append.mp h with h | h
      · exact hin z h
      · rw [List.mem_singleton] at h; subst h; exact i1
    rintro H5 ⟨zs, S5, tb, hD5, hl, hp, hin⟩
    have ho : ∀ z ∈ zs, On z.2.1 z.2.2 ∧ On z.2.1 (z.2.2 + 1) := fun z h => by
      have := hin z h
      unfold In at this
      unfold On
      omega
    clear hin hD S3
    refine ⟨fun σ' H' => ∃ (D : Addr) (zs : List Zp) (o7 o8 : Option V), σ' = [some (.ref w0), some (.ref s), some (.int far), some (.ref D), none, none, none, o7, o8] ∧ Strm H' s b ∧ PL K H' s D zs ∧ zs.length = n ∧ (∀ z ∈ zs, On z.2.1 (z.2.2 + 1)) ∧ Tbs T.ts H', ?_, ?_⟩
    · refine ⟨_, rfl, _, _, _, rfl, by decide, by decide, S5, fun d H7 d0 d1 S7 B7 => ?_⟩
      have tb := tb.but B7 S5.lst
      have P5 : PL K H5 s D zs := ⟨hD5, nD, hp, fun z h => (ho z h).1⟩
      have P7 := P5.but B7 S5
      refine ⟨rfl, _, rfl, ifD (fun e => ?_) (fun e => ⟨D, zs, _, _, rfl, S7, P7, hl, fun z h => (ho z h).2, tb⟩)⟩
      clear P5 S5 B7 e d0 d1
      refine ⟨_, rfl, _, rfl, ⟨_, P7.seq⟩, fun E0 hE0 => ?_⟩
      have nE : D ≠ E0 := ne_of_none P7.l hE0
      have sE : E0 ≠ s := S7.new1 hE0
      have bE : E0 ≠ b := S7.new2 hE0
      refine walk_any (walk_list (K := K) (a := D) (xs := refs zs)) (fun i H' => Strm H' s b ∧ Tbs T.ts H' ∧ PL K H' s D zs ∧ ∃ ks : List Int, H' E0 = some (.lst (ks.map V.int)) ∧ ks.length = i ∧ ∀ k ∈ ks, 0 ≤ k ∧ k < 6) ⟨S7.over hE0, tb.over hE0, P7.over hE0, [], upd_same, rfl, fun k h => by cases h⟩ (fun i H' _ h => h.2.2.1.seq) ?_ ?_
      · rintro i x H1 H2 hi ⟨S1, tb, P1, ks, hE1, hk, hb⟩ ⟨rfl, hx⟩
        have hi2 : i < 60 := by rw [refs_len] at hi; omega
        refine ⟨rfl, yesI ?_⟩
        refine iteT ?_
        refine ⟨_, rfl, _, _, _, rfl, by decide, by decide, S1, fun d H3 d0 d1 S3 B3 => ?_⟩
        have P3 := P1.but B3 S1
        have hE3 := B3.get sE hE1
        refine ⟨_, hE3, by rw [List.length_map, hk]; exact line_of (by omega), S3.at sE bE, (tb.but B3 S1.lst).put ⟨_, hE3⟩, ⟨by rw [upd_ne nE]; exact P3.l, P3.n, P3.p.at ⟨_, hE3⟩, P3.on⟩, ks ++ [d], by rw [upd_same, List.map_append]; rfl, by rw [List.length_append, hk]; rfl, fun k h => ?_⟩
        rcases List.mem_append.mp h with h | h
        · exact hb k h
        · rw [List.mem_singleton] at h; subst h; exact ⟨d0, d1⟩
      rintro H10 ⟨S10, tb, P10, ks, hE10, hk, hb⟩
      rw [refs_len, hl] at hk
      refine ⟨_, rfl, ⟨_, SqL.of hE10⟩, fun F hF => ?_⟩
      refine walk_any (walk_list (K := K) (a := E0) (xs := ks.map V.int)) (fun i H' => Same H10 H' ∧ ∃ ys : List Zp, H' F = some (.lst (refs ys)) ∧ ys.length = i ∧ Pts K H' ys ∧ ∀ z ∈ ys, On z.2.1 z.2.2 ∧ On z.2.1 (z.2.2 + 1)) ⟨same_new hF, [], upd_same, rfl, Pts.nil, fun k h => by cases h⟩ (fun i H' _ h => h.1.seq (K := K) (SqL.of hE10)) ?_ ?_
      · rintro i x H1 H2 hi ⟨s1, ys, hF1, hy, hp1, hb1⟩ ⟨rfl, hx⟩
        rw [List.getElem?_map] at hx
        obtain ⟨k, hk1, rfl⟩ := Option.map_eq_some_iff.mp hx
        have kb := hb k (List.mem_of_getElem? hk1)
        have hi2 : i < 60 := by rw [List.length_map] at hi; omega
        refine ⟨rfl, yesI ?_⟩
        refine iteT ?_
        refine ⟨_, rfl, _, _, rfl, rfl, .inl ⟨by omega, by omega⟩, _, rfl, _, _, rfl, rfl, small rfl, fun q hq => ?_⟩
        have hF2 := rOver (o := HO.tup [.int (2 * k), .int (1 - k)]) hq hF1
        have sq := same_new (o := HO.tup [.int (2 * k), .int (1 - k)]) hq
        refine ⟨_, hF2, by rw [refs_len, hy]; exact line_of (by omega), (s1.trans sq).put hF, ys ++ [(q, 2 * k, 1 - k)], by rw [upd_same, refs_app]; rfl, by rw [List.length_append, hy]; rfl, ((hp1.same sq).at ⟨_, hF2⟩).app (.one (tAt ⟨_, hF2⟩ tHere)), fun z h => ?_⟩
        rcases List.mem_append.mp h with h | h
        · exact hb1 z h
        · rw [List.mem_singleton] at h
          subst h
          unfold On
          dsimp only
          omega
      rintro H11 ⟨s11, ys, hF11, hy, hp11, ho11⟩
      rw [List.length_map, hk] at hy
      exact ⟨F, ys, _, _, rfl, S10.same s11, ⟨hF11, S10.new1 hF, hp11, fun z h => (ho11 z h).1⟩, hy, fun z h => (ho11 z h).2, tb.same s11⟩
    rintro σ' H6 ⟨D, zs, o7, o8, rfl, S6, P6, hln, up, tb⟩
    clear hp ho hl hD5 nD S5
    refine ⟨_, rfl, _, _, rfl, P6.seq, fun t o ht ho => ?_⟩
    have st := same_new (o := HO.frz o (.tup (refs zs))) ht
    have ha : LnAt K (upd H6 t (.frz o (.tup (refs zs)))) t zs := ⟨(TN.here ho).t, P6.p.over ht, P6.on⟩
    have tb := tb.same st
    have S7 := S6.same st
    generalize upd H6 t (.frz o (.tup (refs zs))) = H7 at ha tb S7 ⊢
    clear P6 S6 st ht ho
    refine ⟨_, rfl, t, zs, rfl, ha, by omega, by omega, tb, fun c ws H8 hc W s8 => ?_⟩
    have ha := ha.same s8
    have tb := tb.same s8
    have S8 := S7.same s8
    have few := W.few
    rw [List.length_map, List.length_map] at few
    have lw1 : 1 ≤ ws.length := (corn_of W).l1
    have upw : ∀ z ∈ ws, On z.2.1 (z.2.2 + 1) := fun z hz => by
      obtain ⟨y, hy, ey⟩ := List.mem_map.mp (W.sub z.2 (List.mem_map.mpr ⟨z, hz, rfl⟩))
      have := up y hy
      rw [ey] at this
      exact this
    clear S7 s8 up
    refine ⟨_, rfl, _, rfl, t, zs, _, rfl, ha, by omega, by omega, tb, .inl ⟨c, ws, rfl, hc, by omega, fun b' H9 s9 hb => ?_⟩⟩
    refine ⟨_, _, rfl, rfl, _, rfl, ifFa (by rw [hb.mpr W]; rfl) ?_⟩
    have ha := ha.same s9
    have hc := hc.same s9
    have tb := tb.same s9
    have S9 := S8.same s9
    clear S8 hb s9
    refine ⟨_, rfl, _, rfl, _, rfl, s, b, t, c, zs, ws, rfl, S9, ha, hc, by omega, by omega, lw1, by omega, upw, fun x H10 S10 B10 hx => ?_⟩
    have ha := ha.but B10 S9
    have hc := hc.but B10 S9
    have tb := tb.but B10 S9.lst
    clear S9 B10
    rcases hx with ⟨dd, vs, rfl, hv, lv⟩ | ⟨nm, ty, hn⟩
    · refine ⟨_, rfl, _, rfl, t, zs, _, rfl, ha, by omega, by omega, tb, .inl ⟨dd, vs, rfl, hv, by omega, fun bt H11 s11 hb => ?_⟩⟩
      have e : bt = decide (crd vs = crd ws) := by
        rw [Bool.eq_iff_iff, hb, decide_eq_true_eq]
        exact ⟨fun W2 => W2.unique W fun x => Iff.rfl, fun e => by rw [e]; exact W⟩
      have hd : De K H11 4 (.ref dd) (.ref c) bt := by rw [e]; exact de_points (n := 1) (hv.same s11) (hc.same s11) (by omega)
      clear hb e
      refine ⟨_, rfl, _, _, _, _, _, rfl, .ty _, (Ty.bl bt).x, isaN (by simp [My.six]) (by simp [My.six]), _, rfl, ifTr (by decide) ?_⟩
      refine ⟨_, rfl, _, rfl, _, rfl, _, _, _, rfl, hd, fun H12 s12 => ⟨rfl, ?_⟩⟩
      rw [decide_eq_true rfl]
      exact fin _
    · refine ⟨_, rfl, _, rfl, t, zs, _, rfl, ha, by omega, by omega, tb, .inr ⟨nm, ty, hn, fun H11 s11 => ?_⟩⟩
      have hd : De K H11 4 x (.ref c) false := .ntup 3 (ty.same s11) hn (hc.same s11).t
      refine ⟨_, rfl, _, _, _, _, _, rfl, .ty _, (Ty.bl false).x, isaN (by simp [My.six]) (by simp [My.six]), _, rfl, ifTr (by decide) ?_⟩
      refine ⟨_, rfl, _, rfl, _, rfl, _, _, _, rfl, hd, fun H12 s12 => ⟨rfl, ?_⟩⟩
      rw [decide_eq_true rfl]
      exact fin _
end
theorem all_mk {l : PySem.W.OpenLaw} {w : World} {K : PySem.W.Frag} {h : Heap} {mg : Str → Option Value} {fa : Addr} {q : Program} (X : K.In h) (G : h.Ns mainGlobals mg) (hfa : mg "law" = some (.ref fa)) (TQ : TabsOf q K h)
    {od_is_whole an_is_whole : Option Addr} {sl_is_whole : Array (Option Value)} {oc_is_whole kV_is_whole dc_is_whole pm_is_whole cd_is_whole ct_is_whole : Value} {f_is_whole : Addr}
    (a_is_whole : PySem.W.nsIn K mainGlobals "is_whole" = some (some (.ref f_is_whole)))
    (l_is_whole : K.lookup f_is_whole = some ⟨oc_is_whole, od_is_whole, .func (PySem.W.fnOf "is_whole" "is_whole" (defArgs s_is_whole) (defBody s_is_whole) (defScope s_is_whole) .none kV_is_whole dc_is_whole pm_is_whole an_is_whole cd_is_whole ct_is_whole), sl_is_whole⟩)
    (c_is_whole : PySem.W.codeIn K cd_is_whole "is_whole" = true) (k_is_whole : PySem.W.keepIn K (.ref f_is_whole) = true)
    {od_is_pair an_is_pair : Option Addr} {sl_is_pair : Array (Option Value)} {oc_is_pair kV_is_pair dc_is_pair pm_is_pair cd_is_pair ct_is_pair : Value} {f_is_pair : Addr}
    (a_is_pair : PySem.W.nsIn K mainGlobals "is_pair" = some (some (.ref f_is_pair)))
    (l_is_pair : K.lookup f_is_pair = some ⟨oc_is_pair, od_is_pair, .func (PySem.W.fnOf "is_pair" "is_pair" (defArgs s_is_pair) (defBody s_is_pair) (defScope s_is_pair) .none kV_is_pair dc_is_pair pm_is_pair an_is_pair cd_is_pair ct_is_pair), sl_is_pair⟩)
    (c_is_pair : PySem.W.codeIn K cd_is_pair "is_pair" = true) (k_is_pair : PySem.W.keepIn K (.ref f_is_pair) = true)
    {od_need an_need : Option Addr} {sl_need : Array (Option Value)} {oc_need kV_need dc_need pm_need cd_need ct_need : Value} {f_need : Addr}
    (a_need : PySem.W.nsIn K mainGlobals "need" = some (some (.ref f_need)))
    (l_need : K.lookup f_need = some ⟨oc_need, od_need, .func (PySem.W.fnOf "need" "need" (defArgs s_need) (defBody s_need) (defScope s_need) .none kV_need dc_need pm_need an_need cd_need ct_need), sl_need⟩)
    (c_need : PySem.W.codeIn K cd_need "need" = true) (k_need : PySem.W.keepIn K (.ref f_need) = true)
    {od_is_coordinate an_is_coordinate : Option Addr} {sl_is_coordinate : Array (Option Value)} {oc_is_coordinate kV_is_coordinate dc_is_coordinate pm_is_coordinate cd_is_coordinate ct_is_coordinate : Value} {f_is_coordinate : Addr}
    (a_is_coordinate : PySem.W.nsIn K mainGlobals "is_coordinate" = some (some (.ref f_is_coordinate)))
    (l_is_coordinate : K.lookup f_is_coordinate = some ⟨oc_is_coordinate, od_is_coordinate, .func (PySem.W.fnOf "is_coordinate" "is_coordinate" (defArgs s_is_coordinate) (defBody s_is_coordinate) (defScope s_is_coordinate) .none kV_is_coordinate dc_is_coordinate pm_is_coordinate an_is_coordinate cd_is_coordinate ct_is_coordinate), sl_is_coordinate⟩)
    (c_is_coordinate : PySem.W.codeIn K cd_is_coordinate "is_coordinate" = true) (k_is_coordinate : PySem.W.keepIn K (.ref f_is_coordinate) = true)
    {od_is_point an_is_point : Option Addr} {sl_is_point : Array (Option Value)} {oc_is_point kV_is_point dc_is_point pm_is_point cd_is_point ct_is_point : Value} {f_is_point : Addr}
    (a_is_point : PySem.W.nsIn K mainGlobals "is_point" = some (some (.ref f_is_point)))
    (l_is_point : K.lookup f_is_point = some ⟨oc_is_point, od_is_point, .func (PySem.W.fnOf "is_point" "is_point" (defArgs s_is_point) (defBody s_is_point) (defScope s_is_point) .none kV_is_point dc_is_point pm_is_point an_is_point cd_is_point ct_is_point), sl_is_point⟩)
    (c_is_point : PySem.W.codeIn K cd_is_point "is_point" = true) (k_is_point : PySem.W.keepIn K (.ref f_is_point) = true)
    {od_are_points an_are_points : Option Addr} {sl_are_points : Array (Option Value)} {oc_are_points kV_are_points dc_are_points pm_are_points cd_are_points ct_are_points : Value} {f_are_points : Addr}
    (a_are_points : PySem.W.nsIn K mainGlobals "are_points" = some (some (.ref f_are_points)))
    (l_are_points : K.lookup f_are_points = some ⟨oc_are_points, od_are_points, .func (PySem.W.fnOf "are_points" "are_points" (defArgs s_are_points) (defBody s_are_points) (defScope s_are_points) .none kV_are_points dc_are_points pm_are_points an_are_points cd_are_points ct_are_points), sl_are_points⟩)
    (c_are_points : PySem.W.codeIn K cd_are_points "are_points" = true) (k_are_points : PySem.W.keepIn K (.ref f_are_points) = true)
    {od_turn_of an_turn_of : Option Addr} {sl_turn_of : Array (Option Value)} {oc_turn_of kV_turn_of dc_turn_of pm_turn_of cd_turn_of ct_turn_of : Value} {f_turn_of : Addr}
    (a_turn_of : PySem.W.nsIn K mainGlobals "turn_of" = some (some (.ref f_turn_of)))
    (l_turn_of : K.lookup f_turn_of = some ⟨oc_turn_of, od_turn_of, .func (PySem.W.fnOf "turn_of" "turn_of" (defArgs s_turn_of) (defBody s_turn_of) (defScope s_turn_of) .none kV_turn_of dc_turn_of pm_turn_of an_turn_of cd_turn_of ct_turn_of), sl_turn_of⟩)
    (c_turn_of : PySem.W.codeIn K cd_turn_of "turn_of" = true) (k_turn_of : PySem.W.keepIn K (.ref f_turn_of) = true)
    {od_is_on an_is_on : Option Addr} {sl_is_on : Array (Option Value)} {oc_is_on kV_is_on dc_is_on pm_is_on cd_is_on ct_is_on : Value} {f_is_on : Addr}
    (a_is_on : PySem.W.nsIn K mainGlobals "is_on" = some (some (.ref f_is_on)))
    (l_is_on : K.lookup f_is_on = some ⟨oc_is_on, od_is_on, .func (PySem.W.fnOf "is_on" "is_on" (defArgs s_is_on) (defBody s_is_on) (defScope s_is_on) .none kV_is_on dc_is_on pm_is_on an_is_on cd_is_on ct_is_on), sl_is_on⟩)
    (c_is_on : PySem.W.codeIn K cd_is_on "is_on" = true) (k_is_on : PySem.W.keepIn K (.ref f_is_on) = true)
    {od_ways_around an_ways_around : Option Addr} {sl_ways_around : Array (Option Value)} {oc_ways_around kV_ways_around dc_ways_around pm_ways_around cd_ways_around ct_ways_around : Value} {f_ways_around : Addr}
    (a_ways_around : PySem.W.nsIn K mainGlobals "ways_around" = some (some (.ref f_ways_around)))
    (l_ways_around : K.lookup f_ways_around = some ⟨oc_ways_around, od_ways_around, .func (PySem.W.fnOf "ways_around" "ways_around" (defArgs s_ways_around) (defBody s_ways_around) (defScope s_ways_around) .none kV_ways_around dc_ways_around pm_ways_around an_ways_around cd_ways_around ct_ways_around), sl_ways_around⟩)
    (c_ways_around : PySem.W.codeIn K cd_ways_around "ways_around" = true) (k_ways_around : PySem.W.keepIn K (.ref f_ways_around) = true)
    {od_left_turns an_left_turns : Option Addr} {sl_left_turns : Array (Option Value)} {oc_left_turns kV_left_turns dc_left_turns pm_left_turns cd_left_turns ct_left_turns : Value} {f_left_turns : Addr}
    (a_left_turns : PySem.W.nsIn K mainGlobals "left_turns" = some (some (.ref f_left_turns)))
    (l_left_turns : K.lookup f_left_turns = some ⟨oc_left_turns, od_left_turns, .func (PySem.W.fnOf "left_turns" "left_turns" (defArgs s_left_turns) (defBody s_left_turns) (defScope s_left_turns) .none kV_left_turns dc_left_turns pm_left_turns an_left_turns cd_left_turns ct_left_turns), sl_left_turns⟩)
    (c_left_turns : PySem.W.codeIn K cd_left_turns "left_turns" = true) (k_left_turns : PySem.W.keepIn K (.ref f_left_turns) = true)
    {od_hull_of an_hull_of : Option Addr} {sl_hull_of : Array (Option Value)} {oc_hull_of kV_hull_of dc_hull_of pm_hull_of cd_hull_of ct_hull_of : Value} {f_hull_of : Addr}
    (a_hull_of : PySem.W.nsIn K mainGlobals "hull_of" = some (some (.ref f_hull_of)))
    (l_hull_of : K.lookup f_hull_of = some ⟨oc_hull_of, od_hull_of, .func (PySem.W.fnOf "hull_of" "hull_of" (defArgs s_hull_of) (defBody s_hull_of) (defScope s_hull_of) .none kV_hull_of dc_hull_of pm_hull_of an_hull_of cd_hull_of ct_hull_of), sl_hull_of⟩)
    (c_hull_of : PySem.W.codeIn K cd_hull_of "hull_of" = true) (k_hull_of : PySem.W.keepIn K (.ref f_hull_of) = true)
    {od_are_corners an_are_corners : Option Addr} {sl_are_corners : Array (Option Value)} {oc_are_corners kV_are_corners dc_are_corners pm_are_corners cd_are_corners ct_are_corners : Value} {f_are_corners : Addr}
    (a_are_corners : PySem.W.nsIn K mainGlobals "are_corners" = some (some (.ref f_are_corners)))
    (l_are_corners : K.lookup f_are_corners = some ⟨oc_are_corners, od_are_corners, .func (PySem.W.fnOf "are_corners" "are_corners" (defArgs s_are_corners) (defBody s_are_corners) (defScope s_are_corners) .none kV_are_corners dc_are_corners pm_are_corners an_are_corners cd_are_corners ct_are_corners), sl_are_corners⟩)
    (c_are_corners : PySem.W.codeIn K cd_are_corners "are_corners" = true) (k_are_corners : PySem.W.keepIn K (.ref f_are_corners) = true)
    {od_turns_left an_turns_left : Option Addr} {sl_turns_left : Array (Option Value)} {oc_turns_left kV_turns_left dc_turns_left pm_turns_left cd_turns_left ct_turns_left : Value} {f_turns_left : Addr}
    (a_turns_left : PySem.W.nsIn K mainGlobals "turns_left" = some (some (.ref f_turns_left)))
    (l_turns_left : K.lookup f_turns_left = some ⟨oc_turns_left, od_turns_left, .func (PySem.W.fnOf "turns_left" "turns_left" (defArgs s_turns_left) (defBody s_turns_left) (defScope s_turns_left) .none kV_turns_left dc_turns_left pm_turns_left an_turns_left cd_turns_left ct_turns_left), sl_turns_left⟩)
    (c_turns_left : PySem.W.codeIn K cd_turns_left "turns_left" = true) (k_turns_left : PySem.W.keepIn K (.ref f_turns_left) = true)
    {od_is_hull an_is_hull : Option Addr} {sl_is_hull : Array (Option Value)} {oc_is_hull kV_is_hull dc_is_hull pm_is_hull cd_is_hull ct_is_hull : Value} {f_is_hull : Addr}
    (a_is_hull : PySem.W.nsIn K mainGlobals "is_hull" = some (some (.ref f_is_hull)))
    (l_is_hull : K.lookup f_is_hull = some ⟨oc_is_hull, od_is_hull, .func (PySem.W.fnOf "is_hull" "is_hull" (defArgs s_is_hull) (defBody s_is_hull) (defScope s_is_hull) .none kV_is_hull dc_is_hull pm_is_hull an_is_hull cd_is_hull ct_is_hull), sl_is_hull⟩)
    (c_is_hull : PySem.W.codeIn K cd_is_hull "is_hull" = true) (k_is_hull : PySem.W.keepIn K (.ref f_is_hull) = true)
    {od__law_stream an__law_stream : Option Addr} {sl__law_stream : Array (Option Value)} {oc__law_stream kV__law_stream dc__law_stream pm__law_stream cd__law_stream ct__law_stream : Value} {f__law_stream : Addr}
    (a__law_stream : PySem.W.nsIn K mainGlobals "_law_stream" = some (some (.ref f__law_stream)))
    (l__law_stream : K.lookup f__law_stream = some ⟨oc__law_stream, od__law_stream, .func (PySem.W.fnOf "_law_stream" "_law_stream" (defArgs s__law_stream) (defBody s__law_stream) (defScope s__law_stream) .none kV__law_stream dc__law_stream pm__law_stream an__law_stream cd__law_stream ct__law_stream), sl__law_stream⟩)
    (c__law_stream : PySem.W.codeIn K cd__law_stream "_law_stream" = true) (k__law_stream : PySem.W.keepIn K (.ref f__law_stream) = true)
    {od__law_next an__law_next : Option Addr} {sl__law_next : Array (Option Value)} {oc__law_next kV__law_next dc__law_next pm__law_next cd__law_next ct__law_next : Value} {f__law_next : Addr}
    (a__law_next : PySem.W.nsIn K mainGlobals "_law_next" = some (some (.ref f__law_next)))
    (l__law_next : K.lookup f__law_next = some ⟨oc__law_next, od__law_next, .func (PySem.W.fnOf "_law_next" "_law_next" (defArgs s__law_next) (defBody s__law_next) (defScope s__law_next) .none kV__law_next dc__law_next pm__law_next an__law_next cd__law_next ct__law_next), sl__law_next⟩)
    (c__law_next : PySem.W.codeIn K cd__law_next "_law_next" = true) (k__law_next : PySem.W.keepIn K (.ref f__law_next) = true)
    {od__law_is_integer an__law_is_integer : Option Addr} {sl__law_is_integer : Array (Option Value)} {oc__law_is_integer kV__law_is_integer dc__law_is_integer pm__law_is_integer cd__law_is_integer ct__law_is_integer : Value} {f__law_is_integer : Addr}
    (a__law_is_integer : PySem.W.nsIn K mainGlobals "_law_is_integer" = some (some (.ref f__law_is_integer)))
    (l__law_is_integer : K.lookup f__law_is_integer = some ⟨oc__law_is_integer, od__law_is_integer, .func (PySem.W.fnOf "_law_is_integer" "_law_is_integer" (defArgs s__law_is_integer) (defBody s__law_is_integer) (defScope s__law_is_integer) .none kV__law_is_integer dc__law_is_integer pm__law_is_integer an__law_is_integer cd__law_is_integer ct__law_is_integer), sl__law_is_integer⟩)
    (c__law_is_integer : PySem.W.codeIn K cd__law_is_integer "_law_is_integer" = true) (k__law_is_integer : PySem.W.keepIn K (.ref f__law_is_integer) = true)
    {od__law_equal an__law_equal : Option Addr} {sl__law_equal : Array (Option Value)} {oc__law_equal kV__law_equal dc__law_equal pm__law_equal cd__law_equal ct__law_equal : Value} {f__law_equal : Addr}
    (a__law_equal : PySem.W.nsIn K mainGlobals "_law_equal" = some (some (.ref f__law_equal)))
    (l__law_equal : K.lookup f__law_equal = some ⟨oc__law_equal, od__law_equal, .func (PySem.W.fnOf "_law_equal" "_law_equal" (defArgs s__law_equal) (defBody s__law_equal) (defScope s__law_equal) .none kV__law_equal dc__law_equal pm__law_equal an__law_equal cd__law_equal ct__law_equal), sl__law_equal⟩)
    (c__law_equal : PySem.W.codeIn K cd__law_equal "_law_equal" = true) (k__law_equal : PySem.W.keepIn K (.ref f__law_equal) = true)
    {od__law_point an__law_point : Option Addr} {sl__law_point : Array (Option Value)} {oc__law_point kV__law_point dc__law_point pm__law_point cd__law_point ct__law_point : Value} {f__law_point : Addr}
    (a__law_point : PySem.W.nsIn K mainGlobals "_law_point" = some (some (.ref f__law_point)))
    (l__law_point : K.lookup f__law_point = some ⟨oc__law_point, od__law_point, .func (PySem.W.fnOf "_law_point" "_law_point" (defArgs s__law_point) (defBody s__law_point) (defScope s__law_point) .none kV__law_point dc__law_point pm__law_point an__law_point cd__law_point ct__law_point), sl__law_point⟩)
    (c__law_point : PySem.W.codeIn K cd__law_point "_law_point" = true) (k__law_point : PySem.W.keepIn K (.ref f__law_point) = true)
    {od__law_other an__law_other : Option Addr} {sl__law_other : Array (Option Value)} {oc__law_other kV__law_other dc__law_other pm__law_other cd__law_other ct__law_other : Value} {f__law_other : Addr}
    (a__law_other : PySem.W.nsIn K mainGlobals "_law_other" = some (some (.ref f__law_other)))
    (l__law_other : K.lookup f__law_other = some ⟨oc__law_other, od__law_other, .func (PySem.W.fnOf "_law_other" "_law_other" (defArgs s__law_other) (defBody s__law_other) (defScope s__law_other) .none kV__law_other dc__law_other pm__law_other an__law_other cd__law_other ct__law_other), sl__law_other⟩)
    (c__law_other : PySem.W.codeIn K cd__law_other "_law_other" = true) (k__law_other : PySem.W.keepIn K (.ref f__law_other) = true)
    {od_law an_law : Option Addr} {sl_law : Array (Option Value)} {oc_law kV_law dc_law pm_law cd_law ct_law : Value} {f_law : Addr}
    (a_law : PySem.W.nsIn K mainGlobals "law" = some (some (.ref f_law)))
    (l_law : K.lookup f_law = some ⟨oc_law, od_law, .func (PySem.W.fnOf "law" "law" (defArgs s_law) (defBody s_law) (defScope s_law) .none kV_law dc_law pm_law an_law cd_law ct_law), sl_law⟩)
    (c_law : PySem.W.codeIn K cd_law "law" = true) (k_law : PySem.W.keepIn K (.ref f_law) = true)
    (z_abs : PySem.W.nsIn K mainGlobals "abs" = some none)
    (z_all : PySem.W.nsIn K mainGlobals "all" = some none)
    (z_bool : PySem.W.nsIn K mainGlobals "bool" = some none)
    (z_int : PySem.W.nsIn K mainGlobals "int" = some none)
    (z_isinstance : PySem.W.nsIn K mainGlobals "isinstance" = some none)
    (z_len : PySem.W.nsIn K mainGlobals "len" = some none)
    (z_list : PySem.W.nsIn K mainGlobals "list" = some none)
    (z_min : PySem.W.nsIn K mainGlobals "min" = some none)
    (z_range : PySem.W.nsIn K mainGlobals "range" = some none)
    (z_set : PySem.W.nsIn K mainGlobals "set" = some none)
    (z_sorted : PySem.W.nsIn K mainGlobals "sorted" = some none)
    (z_str : PySem.W.nsIn K mainGlobals "str" = some none)
    (z_tuple : PySem.W.nsIn K mainGlobals "tuple" = some none)
    (z_zip : PySem.W.nsIn K mainGlobals "zip" = some none)
    {t_HIGHEST : Tok} (v_HIGHEST : PySem.W.nsIn K mainGlobals "HIGHEST" = some (some (.int (1000) t_HIGHEST)))
    {t_LOWEST : Tok} (v_LOWEST : PySem.W.nsIn K mainGlobals "LOWEST" = some (some (.int (-1000) t_LOWEST)))
    {t_MOST_OF_HULL : Tok} (v_MOST_OF_HULL : PySem.W.nsIn K mainGlobals "MOST_OF_HULL" = some (some (.int (60) t_MOST_OF_HULL)))
    {bnm bq : Str} {bN bC bI bM : Addr} {bbs : List Value} {bsn : List Str} {bsub : List Value} {bab : Bool} {bcol : Option Bool} {bdd : Option Addr} {bm0 bm1 bm2 bm3 bm5 : Option Value} {boc bdc bpm bcd bct : Value} {bod ban : Option Addr} {bsl : Array (Option Value)}
    (baC : PySem.W.nsIn K mainGlobals "BadValue" = some (some (.ref bC)))
    (bxL : K.lookup bC = some (excClassObj bnm bq bC bN bbs [.ref bM, .type "ValueError", .type "Exception", .type "BaseException", .type "object"] true bsn bsub bab bcol bdd bm0 bm1 bm2 bm3 bm5 "ValueError.__new__"))
    (bsa : PySem.W.findIn K (.ref bC) "__setattr__" = some (some (.builtin "object.__setattr__"))) (bga : PySem.W.findIn K (.ref bC) "__getattribute__" = some (some (.builtin "BaseException.__getattribute__"))) (bgg : PySem.W.findIn K (.ref bC) "__getattr__" = some none) (bnb : PySem.W.findIn K (.ref bC) "name" = some none)
    (ba1 : PySem.W.findIn K (.ref bC) "__init__" = some (some (.ref bI))) (bt1 : PySem.W.typeIn K (.ref bI) = some (.type "function"))
    (bl1 : K.lookup bI = some ⟨boc, bod, .func (PySem.W.fnOf "__init__" "BadValue.__init__" (PySem.BvX.iA ⟨6, 17, 6, 21⟩ ⟨6, 23, 6, 27⟩) (PySem.BvX.iB ⟨7, 8, 7, 12⟩ ⟨7, 8, 7, 17⟩ ⟨7, 20, 7, 24⟩ ⟨7, 8, 7, 24⟩) PySem.BvX.iS .none .none bdc bpm ban bcd bct), bsl⟩) (bc1 : PySem.W.codeIn K bcd "BadValue.__init__" = true)
    (bkC : PySem.W.keepIn K (.ref bC) = true) (beC : PySem.W.subIn K (.ref bC) (.type "BaseException") = some true) (btC : PySem.W.typeIn K (.ref bC) = some (.type "type")) (bhC : PySem.W.hasDictIn K bC = true) (biC : PySem.W.isClsIn K bC = true) (bsC : PySem.W.subIn K (.ref bC) (.ref bC) = some true)
    {cc_are_points P_are_points : Addr} {t1_are_points : Value} {t2_are_points : Option Addr} {t3_are_points : Array (Option Value)} {vs_are_points : Array Value}
    (e_are_points : cd_are_points = .ref cc_are_points) (o_are_points : K.lookup cc_are_points = some ⟨t1_are_points, t2_are_points, .fields vs_are_points, t3_are_points⟩) (v_are_points : (vs_are_points[11]? : Option Value) = some (.ref P_are_points)) (nl_are_points : K.lookup P_are_points = none)
    (rc_are_points : ((PyProof.Rows.recsOf q).any fun e => e.name == ("are_points" : Str)) = true)
    {cc_are_corners P_are_corners : Addr} {t1_are_corners : Value} {t2_are_corners : Option Addr} {t3_are_corners : Array (Option Value)} {vs_are_corners : Array Value}
    (e_are_corners : cd_are_corners = .ref cc_are_corners) (o_are_corners : K.lookup cc_are_corners = some ⟨t1_are_corners, t2_are_corners, .fields vs_are_corners, t3_are_corners⟩) (v_are_corners : (vs_are_corners[11]? : Option Value) = some (.ref P_are_corners)) (nl_are_corners : K.lookup P_are_corners = none)
    (rc_are_corners : ((PyProof.Rows.recsOf q).any fun e => e.name == ("are_corners" : Str)) = true)
    {cc_turns_left P_turns_left : Addr} {t1_turns_left : Value} {t2_turns_left : Option Addr} {t3_turns_left : Array (Option Value)} {vs_turns_left : Array Value}
    (e_turns_left : cd_turns_left = .ref cc_turns_left) (o_turns_left : K.lookup cc_turns_left = some ⟨t1_turns_left, t2_turns_left, .fields vs_turns_left, t3_turns_left⟩) (v_turns_left : (vs_turns_left[11]? : Option Value) = some (.ref P_turns_left)) (nl_turns_left : K.lookup P_turns_left = none)
    (rc_turns_left : ((PyProof.Rows.recsOf q).any fun e => e.name == ("turns_left" : Str)) = true)
    {cc_is_hull P_is_hull : Addr} {t1_is_hull : Value} {t2_is_hull : Option Addr} {t3_is_hull : Array (Option Value)} {vs_is_hull : Array Value}
    (e_is_hull : cd_is_hull = .ref cc_is_hull) (o_is_hull : K.lookup cc_is_hull = some ⟨t1_is_hull, t2_is_hull, .fields vs_is_hull, t3_is_hull⟩) (v_is_hull : (vs_is_hull[11]? : Option Value) = some (.ref P_is_hull)) (nl_is_hull : K.lookup P_is_hull = none)
    (rc_is_hull : ((PyProof.Rows.recsOf q).any fun e => e.name == ("is_hull" : Str)) = true)
    : LamX.LawAtS l w K CX0 12 63 "script" mg fa h := by
  have e := hfa.symm.trans (PySem.W.mg_of X G a_law)
  cases e
  let T : Txt K mg := {
    a_is_whole := f_is_whole, d_is_whole := _, F_is_whole := fun_mk (st := s_is_whole) l_is_whole c_is_whole k_is_whole, m_is_whole := PySem.W.mg_of X G a_is_whole,
    b_is_whole := (fun_mk (st := s_is_whole) l_is_whole c_is_whole k_is_whole).binds (ps := ["value"]) fun _ _ _ _ _ _ us hl => match us, hl with | [_], _ => rfl,
    a_is_pair := f_is_pair, d_is_pair := _, F_is_pair := fun_mk (st := s_is_pair) l_is_pair c_is_pair k_is_pair, m_is_pair := PySem.W.mg_of X G a_is_pair,
    b_is_pair := (fun_mk (st := s_is_pair) l_is_pair c_is_pair k_is_pair).binds (ps := ["value"]) fun _ _ _ _ _ _ us hl => match us, hl with | [_], _ => rfl,
    a_need := f_need, d_need := _, F_need := fun_mk (st := s_need) l_need c_need k_need, m_need := PySem.W.mg_of X G a_need,
    b_need := (fun_mk (st := s_need) l_need c_need k_need).binds (ps := ["holds", "name"]) fun _ _ _ _ _ _ us hl => match us, hl with | [_, _], _ => rfl,
    a_is_coordinate := f_is_coordinate, d_is_coordinate := _, F_is_coordinate := fun_mk (st := s_is_coordinate) l_is_coordinate c_is_coordinate k_is_coordinate, m_is_coordinate := PySem.W.mg_of X G a_is_coordinate,
    b_is_coordinate := (fun_mk (st := s_is_coordinate) l_is_coordinate c_is_coordinate k_is_coordinate).binds (ps := ["value"]) fun _ _ _ _ _ _ us hl => match us, hl with | [_], _ => rfl,
    a_is_point := f_is_point, d_is_point := _, F_is_point := fun_mk (st := s_is_point) l_is_point c_is_point k_is_point, m_is_point := PySem.W.mg_of X G a_is_point,
    b_is_point := (fun_mk (st := s_is_point) l_is_point c_is_point k_is_point).binds (ps := ["value"]) fun _ _ _ _ _ _ us hl => match us, hl with | [_], _ => rfl,
    a_are_points := f_are_points, d_are_points := _, cc_are_points := cc_are_points, P_are_points := P_are_points, F_are_points := funT_mk (st := s_are_points) l_are_points c_are_points k_are_points e_are_points, m_are_points := PySem.W.mg_of X G a_are_points,
    b_are_points := (fun_mk (st := s_are_points) l_are_points c_are_points k_are_points).binds (ps := ["value", "least", "most"]) fun _ _ _ _ _ _ us hl => match us, hl with | [_, _, _], _ => rfl,
    a_turn_of := f_turn_of, d_turn_of := _, F_turn_of := fun_mk (st := s_turn_of) l_turn_of c_turn_of k_turn_of, m_turn_of := PySem.W.mg_of X G a_turn_of,
    b_turn_of := (fun_mk (st := s_turn_of) l_turn_of c_turn_of k_turn_of).binds (ps := ["a", "b", "c"]) fun _ _ _ _ _ _ us hl => match us, hl with | [_, _, _], _ => rfl,
    a_is_on := f_is_on, d_is_on := _, F_is_on := fun_mk (st := s_is_on) l_is_on c_is_on k_is_on, m_is_on := PySem.W.mg_of X G a_is_on,
    b_is_on := (fun_mk (st := s_is_on) l_is_on c_is_on k_is_on).binds (ps := ["p", "segment"]) fun _ _ _ _ _ _ us hl => match us, hl with | [_, _], _ => rfl,
    a_ways_around := f_ways_around, d_ways_around := _, F_ways_around := fun_mk (st := s_ways_around) l_ways_around c_ways_around k_ways_around, m_ways_around := PySem.W.mg_of X G a_ways_around,
    b_ways_around := (fun_mk (st := s_ways_around) l_ways_around c_ways_around k_ways_around).binds (ps := ["points"]) fun _ _ _ _ _ _ us hl => match us, hl with | [_], _ => rfl,
    a_left_turns := f_left_turns, d_left_turns := _, F_left_turns := fun_mk (st := s_left_turns) l_left_turns c_left_turns k_left_turns, m_left_turns := PySem.W.mg_of X G a_left_turns,
    b_left_turns := (fun_mk (st := s_left_turns) l_left_turns c_left_turns k_left_turns).binds (ps := ["points"]) fun _ _ _ _ _ _ us hl => match us, hl with | [_], _ => rfl,
    a_hull_of := f_hull_of, d_hull_of := _, F_hull_of := fun_mk (st := s_hull_of) l_hull_of c_hull_of k_hull_of, m_hull_of := PySem.W.mg_of X G a_hull_of,
    b_hull_of := (fun_mk (st := s_hull_of) l_hull_of c_hull_of k_hull_of).binds (ps := ["points"]) fun _ _ _ _ _ _ us hl => match us, hl with | [_], _ => rfl,
    a_are_corners := f_are_corners, d_are_corners := _, cc_are_corners := cc_are_corners, P_are_corners := P_are_corners, F_are_corners := funT_mk (st := s_are_corners) l_are_corners c_are_corners k_are_corners e_are_corners, m_are_corners := PySem.W.mg_of X G a_are_corners,
    b_are_corners := (fun_mk (st := s_are_corners) l_are_corners c_are_corners k_are_corners).binds (ps := ["points", "value"]) fun _ _ _ _ _ _ us hl => match us, hl with | [_, _], _ => rfl,
    a_turns_left := f_turns_left, d_turns_left := _, cc_turns_left := cc_turns_left, P_turns_left := P_turns_left, F_turns_left := funT_mk (st := s_turns_left) l_turns_left c_turns_left k_turns_left e_turns_left, m_turns_left := PySem.W.mg_of X G a_turns_left,
    b_turns_left := (fun_mk (st := s_turns_left) l_turns_left c_turns_left k_turns_left).binds (ps := ["corners"]) fun _ _ _ _ _ _ us hl => match us, hl with | [_], _ => rfl,
    a_is_hull := f_is_hull, d_is_hull := _, cc_is_hull := cc_is_hull, P_is_hull := P_is_hull, F_is_hull := funT_mk (st := s_is_hull) l_is_hull c_is_hull k_is_hull e_is_hull, m_is_hull := PySem.W.mg_of X G a_is_hull,
    b_is_hull := (fun_mk (st := s_is_hull) l_is_hull c_is_hull k_is_hull).binds (ps := ["points", "value"]) fun _ _ _ _ _ _ us hl => match us, hl with | [_, _], _ => rfl,
    a__law_stream := f__law_stream, d__law_stream := _, F__law_stream := fun_mk (st := s__law_stream) l__law_stream c__law_stream k__law_stream, m__law_stream := PySem.W.mg_of X G a__law_stream,
    b__law_stream := (fun_mk (st := s__law_stream) l__law_stream c__law_stream k__law_stream).binds (ps := ["script"]) fun _ _ _ _ _ _ us hl => match us, hl with | [_], _ => rfl,
    a__law_next := f__law_next, d__law_next := _, F__law_next := fun_mk (st := s__law_next) l__law_next c__law_next k__law_next, m__law_next := PySem.W.mg_of X G a__law_next,
    b__law_next := (fun_mk (st := s__law_next) l__law_next c__law_next k__law_next).binds (ps := ["stream", "many"]) fun _ _ _ _ _ _ us hl => match us, hl with | [_, _], _ => rfl,
    a__law_is_integer := f__law_is_integer, d__law_is_integer := _, F__law_is_integer := fun_mk (st := s__law_is_integer) l__law_is_integer c__law_is_integer k__law_is_integer, m__law_is_integer := PySem.W.mg_of X G a__law_is_integer,
    b__law_is_integer := (fun_mk (st := s__law_is_integer) l__law_is_integer c__law_is_integer k__law_is_integer).binds (ps := ["actual"]) fun _ _ _ _ _ _ us hl => match us, hl with | [_], _ => rfl,
    a__law_equal := f__law_equal, d__law_equal := _, F__law_equal := fun_mk (st := s__law_equal) l__law_equal c__law_equal k__law_equal, m__law_equal := PySem.W.mg_of X G a__law_equal,
    b__law_equal := (fun_mk (st := s__law_equal) l__law_equal c__law_equal k__law_equal).binds (ps := ["actual", "due"]) fun _ _ _ _ _ _ us hl => match us, hl with | [_, _], _ => rfl,
    a__law_point := f__law_point, d__law_point := _, F__law_point := fun_mk (st := s__law_point) l__law_point c__law_point k__law_point, m__law_point := PySem.W.mg_of X G a__law_point,
    b__law_point := (fun_mk (st := s__law_point) l__law_point c__law_point k__law_point).binds (ps := ["stream", "far"]) fun _ _ _ _ _ _ us hl => match us, hl with | [_, _], _ => rfl,
    a__law_other := f__law_other, d__law_other := _, F__law_other := fun_mk (st := s__law_other) l__law_other c__law_other k__law_other, m__law_other := PySem.W.mg_of X G a__law_other,
    b__law_other := (fun_mk (st := s__law_other) l__law_other c__law_other k__law_other).binds (ps := ["stream", "points", "hull"]) fun _ _ _ _ _ _ us hl => match us, hl with | [_, _, _], _ => rfl,
    a_law := fa, d_law := _, F_law := fun_mk (st := s_law) l_law c_law k_law, m_law := PySem.W.mg_of X G a_law,
    b_law := (fun_mk (st := s_law) l_law c_law k_law).binds (ps := ["script"]) fun _ _ _ _ _ _ us hl => match us, hl with | [_], _ => rfl,
    n_abs := PySem.W.mg_none_of X G z_abs,
    n_all := PySem.W.mg_none_of X G z_all,
    n_bool := PySem.W.mg_none_of X G z_bool,
    n_int := PySem.W.mg_none_of X G z_int,
    n_isinstance := PySem.W.mg_none_of X G z_isinstance,
    n_len := PySem.W.mg_none_of X G z_len,
    n_list := PySem.W.mg_none_of X G z_list,
    n_min := PySem.W.mg_none_of X G z_min,
    n_range := PySem.W.mg_none_of X G z_range,
    n_set := PySem.W.mg_none_of X G z_set,
    n_sorted := PySem.W.mg_none_of X G z_sorted,
    n_str := PySem.W.mg_none_of X G z_str,
    n_tuple := PySem.W.mg_none_of X G z_tuple,
    n_zip := PySem.W.mg_none_of X G z_zip,
    c_HIGHEST := ⟨_, PySem.W.mg_of X G v_HIGHEST⟩,
    c_LOWEST := ⟨_, PySem.W.mg_of X G v_LOWEST⟩,
    c_MOST_OF_HULL := ⟨_, PySem.W.mg_of X G v_MOST_OF_HULL⟩,
    C_BadValue := bC, i_BadValue := bI,
    bv := { gC := PySem.W.mg_of X G baC, cls := ⟨bnm, bq, bN, bbs, _, bsn, bsub, bab, bcol, bdd, bm0, bm1, bm2, bm3, bm5, bxL, rfl⟩, sa := bsa, ga := bga, gg := bgg, noN := bnb, iC := ba1, tC := bt1, kC := bkC, exC := beC, tyC := btC, hdC := bhC, te := exm_self beC biC btC bsC, fn := ⟨_, _, _, _, _, _, _, _, _, _, _, _, _, _, bl1, bc1⟩ } }
  have tb_are_points := TQ "are_points" cc_are_points P_are_points rc_are_points (tabIn_of a_are_points l_are_points rfl e_are_points o_are_points v_are_points)
  have tb_are_corners := TQ "are_corners" cc_are_corners P_are_corners rc_are_corners (tabIn_of a_are_corners l_are_corners rfl e_are_corners o_are_corners v_are_corners)
  have tb_turns_left := TQ "turns_left" cc_turns_left P_turns_left rc_turns_left (tabIn_of a_turns_left l_turns_left rfl e_turns_left o_turns_left v_turns_left)
  have tb_is_hull := TQ "is_hull" cc_is_hull P_is_hull rc_is_hull (tabIn_of a_is_hull l_is_hull rfl e_is_hull o_is_hull v_is_hull)
  refine ⟨_, [(cc_are_points, P_are_points), (cc_are_corners, P_are_corners), (cc_turns_left, P_turns_left), (cc_is_hull, P_is_hull)], spLawT K T.ts, List.forall_mem_cons.mpr ⟨tb_are_points.2, List.forall_mem_cons.mpr ⟨tb_are_corners.2, List.forall_mem_cons.mpr ⟨tb_turns_left.2, List.forall_mem_cons.mpr ⟨tb_is_hull.2, fun _ z => nomatch z⟩⟩⟩⟩, List.forall_mem_cons.mpr ⟨nl_are_points, List.forall_mem_cons.mpr ⟨nl_are_corners, List.forall_mem_cons.mpr ⟨nl_turns_left, List.forall_mem_cons.mpr ⟨nl_is_hull, fun _ z => nomatch z⟩⟩⟩⟩, List.forall_mem_cons.mpr ⟨tb_are_points.1, List.forall_mem_cons.mpr ⟨tb_are_corners.1, List.forall_mem_cons.mpr ⟨tb_turns_left.1, List.forall_mem_cons.mpr ⟨tb_is_hull.1, fun _ z => nomatch z⟩⟩⟩⟩, fun s v => .of_eq rfl, fun H a ns h1 h2 h3 h4 => ⟨a, ns, rfl, h4, h1, tbs_nil rfl h3, fun _ => rfl⟩, fun base _ _ hb => ok_law T ⟨(let z := hb (cc_are_points, P_are_points) (by simp); ⟨z.code, z.bm, z.gP⟩), (let z := hb (cc_are_corners, P_are_corners) (by simp); ⟨z.code, z.bm, z.gP⟩), (let z := hb (cc_turns_left, P_turns_left) (by simp); ⟨z.code, z.bm, z.gP⟩), (let z := hb (cc_is_hull, P_is_hull) (by simp); ⟨z.code, z.bm, z.gP⟩)⟩⟩
end My
open PySem PySem.W PyProof.Rows
set_option maxRecDepth 100000 in
set_option maxHeartbeats 0 in
theorem PySem.Challenge.cw_trueatlas_k11_whole_any_hull_holds : PySem.Challenge.rw_trueatlas_k11_whole_any_hull.Holds := by
  w_on; o_law; k_head; (case hw => w_witness2)
  k_fill
  refine My.walkT (l := PySem.Challenge.rw_trueatlas_k11_whole_any_hull) (k := 12) ⟨rfl, by decide, by decide⟩ rfl rfl (fun w h Y => PySem.W.kIn_of Y) ?F
  case F =>
    intro w mg fa h TQ KX G hmg
    refine' My.all_mk (w := w) KX G hmg TQ ?a_is_whole ?l_is_whole ?c_is_whole ?k_is_whole ?a_is_pair ?l_is_pair ?c_is_pair ?k_is_pair ?a_need ?l_need ?c_need ?k_need ?a_is_coordinate ?l_is_coordinate ?c_is_coordinate ?k_is_coordinate ?a_is_point ?l_is_point ?c_is_point ?k_is_point ?a_are_points ?l_are_points ?c_are_points ?k_are_points ?a_turn_of ?l_turn_of ?c_turn_of ?k_turn_of ?a_is_on ?l_is_on ?c_is_on ?k_is_on ?a_ways_around ?l_ways_around ?c_ways_around ?k_ways_around ?a_left_turns ?l_left_turns ?c_left_turns ?k_left_turns ?a_hull_of ?l_hull_of ?c_hull_of ?k_hull_of ?a_are_corners ?l_are_corners ?c_are_corners ?k_are_corners ?a_turns_left ?l_turns_left ?c_turns_left ?k_turns_left ?a_is_hull ?l_is_hull ?c_is_hull ?k_is_hull ?a__law_stream ?l__law_stream ?c__law_stream ?k__law_stream ?a__law_next ?l__law_next ?c__law_next ?k__law_next ?a__law_is_integer ?l__law_is_integer ?c__law_is_integer ?k__law_is_integer ?a__law_equal ?l__law_equal ?c__law_equal ?k__law_equal ?a__law_point ?l__law_point ?c__law_point ?k__law_point ?a__law_other ?l__law_other ?c__law_other ?k__law_other ?a_law ?l_law ?c_law ?k_law ?z_abs ?z_all ?z_bool ?z_int ?z_isinstance ?z_len ?z_list ?z_min ?z_range ?z_set ?z_sorted ?z_str ?z_tuple ?z_zip ?v_HIGHEST ?v_LOWEST ?v_MOST_OF_HULL ?baC ?bxL ?bsa ?bga ?bgg ?bnb ?ba1 ?bt1 ?bl1 ?bc1 ?bkC ?beC ?btC ?bhC ?biC ?bsC ?e_are_points ?o_are_points ?v_are_points ?nl_are_points ?rc_are_points ?e_are_corners ?o_are_corners ?v_are_corners ?nl_are_corners ?rc_are_corners ?e_turns_left ?o_turns_left ?v_turns_left ?nl_turns_left ?rc_turns_left ?e_is_hull ?o_is_hull ?v_is_hull ?nl_is_hull ?rc_is_hull
    (case a_is_whole => k_is)
    (case l_is_whole => k_is)
    (case c_is_whole => k_is)
    (case k_is_whole => k_is)
    (case a_is_pair => k_is)
    (case l_is_pair => k_is)
    (case c_is_pair => k_is)
    (case k_is_pair => k_is)
    (case a_need => k_is)
    (case l_need => k_is)
    (case c_need => k_is)
    (case k_need => k_is)
    (case a_is_coordinate => k_is)
    (case l_is_coordinate => k_is)
    (case c_is_coordinate => k_is)
    (case k_is_coordinate => k_is)
    (case a_is_point => k_is)
    (case l_is_point => k_is)
    (case c_is_point => k_is)
    (case k_is_point => k_is)
    (case a_are_points => k_is)
    (case l_are_points => k_is)
    (case c_are_points => k_is)
    (case k_are_points => k_is)
    (case a_turn_of => k_is)
    (case l_turn_of => k_is)
    (case c_turn_of => k_is)
    (case k_turn_of => k_is)
    (case a_is_on => k_is)
    (case l_is_on => k_is)
    (case c_is_on => k_is)
    (case k_is_on => k_is)
    (case a_ways_around => k_is)
    (case l_ways_around => k_is)
    (case c_ways_around => k_is)
    (case k_ways_around => k_is)
    (case a_left_turns => k_is)
    (case l_left_turns => k_is)
    (case c_left_turns => k_is)
    (case k_left_turns => k_is)
    (case a_hull_of => k_is)
    (case l_hull_of => k_is)
    (case c_hull_of => k_is)
    (case k_hull_of => k_is)
    (case a_are_corners => k_is)
    (case l_are_corners => k_is)
    (case c_are_corners => k_is)
    (case k_are_corners => k_is)
    (case a_turns_left => k_is)
    (case l_turns_left => k_is)
    (case c_turns_left => k_is)
    (case k_turns_left => k_is)
    (case a_is_hull => k_is)
    (case l_is_hull => k_is)
    (case c_is_hull => k_is)
    (case k_is_hull => k_is)
    (case a__law_stream => k_is)
    (case l__law_stream => k_is)
    (case c__law_stream => k_is)
    (case k__law_stream => k_is)
    (case a__law_next => k_is)
    (case l__law_next => k_is)
    (case c__law_next => k_is)
    (case k__law_next => k_is)
    (case a__law_is_integer => k_is)
    (case l__law_is_integer => k_is)
    (case c__law_is_integer => k_is)
    (case k__law_is_integer => k_is)
    (case a__law_equal => k_is)
    (case l__law_equal => k_is)
    (case c__law_equal => k_is)
    (case k__law_equal => k_is)
    (case a__law_point => k_is)
    (case l__law_point => k_is)
    (case c__law_point => k_is)
    (case k__law_point => k_is)
    (case a__law_other => k_is)
    (case l__law_other => k_is)
    (case c__law_other => k_is)
    (case k__law_other => k_is)
    (case a_law => k_is)
    (case l_law => k_is)
    (case c_law => k_is)
    (case k_law => k_is)
    (case z_abs => k_is)
    (case z_all => k_is)
    (case z_bool => k_is)
    (case z_int => k_is)
    (case z_isinstance => k_is)
    (case z_len => k_is)
    (case z_list => k_is)
    (case z_min => k_is)
    (case z_range => k_is)
    (case z_set => k_is)
    (case z_sorted => k_is)
    (case z_str => k_is)
    (case z_tuple => k_is)
    (case z_zip => k_is)
    (case v_HIGHEST => k_is)
    (case v_LOWEST => k_is)
    (case v_MOST_OF_HULL => k_is)
    (case baC => k_is)
    (case bxL => k_is)
    (case bsa => k_is)
    (case bga => k_is)
    (case bgg => k_is)
    (case bnb => k_is)
    (case ba1 => k_is)
    (case bt1 => k_is)
    (case bl1 => k_is)
    (case bc1 => k_is)
    (case bkC => k_is)
    (case beC => k_is)
    (case btC => k_is)
    (case bhC => k_is)
    (case biC => k_is)
    (case bsC => first | rfl | k_is)
    (case e_are_points => rfl)
    (case o_are_points => k_is)
    (case v_are_points => rfl)
    (case nl_are_points => first | rfl | kernel_rfl)
    (case rc_are_points => first | rfl | decide +kernel)
    (case e_are_corners => rfl)
    (case o_are_corners => k_is)
    (case v_are_corners => rfl)
    (case nl_are_corners => first | rfl | kernel_rfl)
    (case rc_are_corners => first | rfl | decide +kernel)
    (case e_turns_left => rfl)
    (case o_turns_left => k_is)
    (case v_turns_left => rfl)
    (case nl_turns_left => first | rfl | kernel_rfl)
    (case rc_turns_left => first | rfl | decide +kernel)
    (case e_is_hull => rfl)
    (case o_is_hull => k_is)
    (case v_is_hull => rfl)
    (case nl_is_hull => first | rfl | kernel_rfl)
    (case rc_is_hull => first | rfl | decide +kernel)

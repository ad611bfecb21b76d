import PyProof.Rows.All
import Wide.All
import OpenK.AllK
import Wide.FinOn
import HandS.ForMost
import HandS.ForExc
import HandS.IsInst
import HandS.Wide
import HandS.TupLe
import HandS.TupAny
import HandS.Gcd
import HandS.Codes
import HandS.AnyAll
import KE.KExcIs
import HandS.GenList
import HandS.Walk
import PyProof.SumAny
import PyProof.SeqWrite
import HandS.EndTab
import HandS.Zip
import KE.SortData
import KE.DataMinMax
import KE.DataCmp
import HandS.SortInts
import HandS.Zip
import HandS.Walk
import HandS.Zip0
import HandS.Zip
import HandS.GenList
import HandS.Style
import HandS.TupAny
import KE.KRevSl
import HandS.Walk
import HandS.Deep
import HandS.Strs
import HandS.Style
import HandS.TupAny
import KE.KRevSl
import KE.BitLaws
import HandS.TupSets
import KE.SortData
import HandS.Style
import HandS.TupAny
import HandS.More
import HandS.TupMul
import PySem.Challenge.RW_trueatlas_k13_everything_turned
set_option Elab.async false
set_option linter.all false
set_option maxRecDepth 100000
set_option maxHeartbeats 4000000
namespace My
open PySem L2
/-! ## heaps: what stood stands; a table of a code object may have grown -/
/-- no table of a code object -/
def NT (o : HO) : Prop := ∀ ps, o ≠ .tbl ps
/-- what was o stands at b -/
def Std (H : Hp) (b : Addr) (o : HO) : Prop := H b = some o ∨ ∃ ps qs, o = .tbl ps ∧ H b = some (.tbl qs) ∧ (TriplesOk ps.toList → TriplesOk qs.toList)
theorem Std.nt {H : Hp} {b : Addr} {o : HO} (h : Std H b o) (n : NT o) : H b = some o := by
  rcases h with h | ⟨ps, _, e, _⟩
  · exact h
  · exact absurd e (n ps)
theorem Std.ne_none {H : Hp} {b : Addr} {o : HO} (h : Std H b o) : H b ≠ none := by
  rcases h with h | ⟨_, _, _, h, _⟩ <;> rw [h] <;> simp
theorem Std.over {H : Hp} {b p : Addr} {o u : HO} (h : Std H b o) (n : b ≠ p) : Std (upd H p u) b o := by
  unfold Std at h ⊢
  rw [upd_ne n]; exact h
theorem Std.next {H H' : Hp} {b : Addr} {o : HO} (h : Std H b o) (k : ∀ u, H b = some u → Std H' b u) : Std H' b o := by
  rcases h with h | ⟨ps, qs, e, h, t⟩
  · exact k o h
  · rcases k _ h with k | ⟨ps2, rs, e2, k, t2⟩
    · exact .inr ⟨ps, qs, e, k, t⟩
    · injection e2 with e2
      subst e2
      exact .inr ⟨ps, rs, e, k, fun z => t2 (t z)⟩
/-- all that was tracked stands -/
def Same (H H' : Hp) : Prop := ∀ b o, H b = some o → Std H' b o
theorem Same.refl (H : Hp) : Same H H := fun _ _ h => .inl h
theorem Same.trans {H H1 H2 : Hp} (a : Same H H1) (b : Same H1 H2) : Same H H2 := fun c o h => (a c o h).next (b c)
theorem Same.free {H H' : Hp} (e : Same H H') {l : Addr} (h : H' l = none) : H l = none := by
  cases q : H l with
  | none => rfl
  | some o => exact absurd h (e l o q).ne_none
theorem Same.get {H H' : Hp} {b : Addr} {o : HO} (e : Same H H') (h : H b = some o) (n : NT o := by intro _ z; cases z) : H' b = some o := (e b o h).nt n
theorem Same.seq {K : PySem.W.Frag} {H H' : Hp} {a : Addr} {xs : List V} (e : Same H H') (h : SqL K H a xs) : SqL K H' a xs := by
  rcases h with (h | ⟨o, h⟩) | h
  · exact .inl (.inl (e.get h))
  · exact .inl (.inr ⟨o, e.get h⟩)
  · exact .inr h
/-! ## the tables of the code objects -/
/-- the tables stand -/
def Tbs (ts : List Addr) (H : Hp) : Prop := ∀ P ∈ ts, GxR.TabG H P
theorem tabG_std {H H' : Hp} {P : Addr} (h : GxR.TabG H P) (k : ∀ u, H P = some u → Std H' P u) : GxR.TabG H' P := by
  obtain ⟨ps, e, t⟩ := h
  rcases k _ e with k | ⟨ps2, qs, e2, k, t2⟩
  · exact ⟨ps, k, t⟩
  · injection e2 with e2
    subst e2
    exact ⟨qs, k, t2 t⟩
theorem Tbs.same {ts : List Addr} {H H' : Hp} (h : Tbs ts H) (e : Same H H') : Tbs ts H' := fun P hP => tabG_std (h P hP) (e P)
theorem same_tab {P : Addr} {H H' : Hp} (g : GxR.TabG H P) (h : GxR.Tabbed P H H') : Same H H' := fun b o e => by
  by_cases q : b = P
  · subst q
    obtain ⟨ps, e1, t⟩ := g
    obtain ⟨qs, e2, t2⟩ := h.1
    rw [e1] at e
    cases e
    exact .inr ⟨ps, qs, rfl, e2, fun _ => t2⟩
  · exact .inl (by rw [h.2 b q]; exact e)
/-! ## small rules -/
theorem pe_gI {X : Cx} {x : Str} {i : Int} {pos : Pos} (hm : ∃ t, X.mg x = some (.int i t)) (hg : Gl X x := by rfl) (hd : (x == ("__debug__" : Str)) = false := by decide) (hcd : (x == ("__classdict__" : Str)) = false := by decide) : PE X (.Name x pos) (tC (.int i)) := by
  obtain ⟨t, e⟩ := hm
  exact pe_glob hg e ⟨t, rfl⟩ hd
theorem ifD {c A B : Prop} [Decidable c] (h1 : c → A) (h2 : ¬ c → B) : if decide c = true then A else B := by
  by_cases h : c
  · rw [if_pos (decide_eq_true h)]; exact h1 h
  · rw [if_neg (by rw [decide_eq_false h]; exact Bool.false_ne_true)]; exact h2 h
theorem ifND {c A B : Prop} [Decidable c] (h1 : ¬ c → A) (h2 : c → B) : if (!decide c) = true then A else B := by
  by_cases h : c
  · rw [if_neg (by rw [decide_eq_true h]; exact Bool.false_ne_true)]; exact h2 h
  · rw [if_pos (by rw [decide_eq_false h]; rfl)]; exact h1 h
theorem ifB {b : Bool} {A B : Prop} (h1 : b = true → A) (h2 : b = false → B) : if b = true then A else B := by
  cases b
  · exact iteF (h2 rfl)
  · exact iteT (h1 rfl)
theorem ifTr {b : Bool} {A B : Prop} (e : b = true) (h : A) : if b = true then A else B := by rw [if_pos e]; exact h
theorem ifFa {b : Bool} {A B : Prop} (e : b = false) (h : B) : if b = true then A else B := by rw [e]; exact iteF h
/-! ## heaps: all that stood stands, but for what is at s -/
def But (s : Addr) (H H' : Hp) : Prop := ∀ b o, b ≠ s → H b = some o → Std H' b o
theorem But.refl {s : Addr} {H : Hp} : But s H H := fun _ _ _ e => .inl e
theorem But.trans {s : Addr} {H H1 H2 : Hp} (a : But s H H1) (b : But s H1 H2) : But s H H2 := fun c o n e => (a c o n e).next fun u k => b c u n k
theorem But.new {s p : Addr} {H : Hp} {o : HO} (n : H p = none) : But s H (upd H p o) := fun b u _ e => .inl (by
  rw [upd_ne (ne_of_none e n)]; exact e)
theorem But.then_new {s p : Addr} {H H1 : Hp} {o : HO} (a : But s H H1) (n : H1 p = none) : But s H (upd H1 p o) := a.trans (But.new n)
theorem But.at {s : Addr} {H : Hp} {o : HO} : But s H (upd H s o) := fun b u n e => .inl (by rw [upd_ne n]; exact e)
theorem But.then_at {s : Addr} {H H1 : Hp} {o : HO} (a : But s H H1) : But s H (upd H1 s o) := a.trans But.at
theorem But.of_same {s : Addr} {H H' : Hp} (a : Same H H') : But s H H' := fun b o _ e => a b o e
theorem But.then_same {s : Addr} {H H1 H2 : Hp} (a : But s H H1) (b : Same H1 H2) : But s H H2 := a.trans (But.of_same b)
theorem But.get {s b : Addr} {H H' : Hp} {o : HO} (e : But s H H') (q : b ≠ s) (h : H b = some o) (n : NT o := by intro _ z; cases z) : H' b = some o := (e b o q h).nt n
theorem same_new {p : Addr} {H : Hp} {o : HO} (n : H p = none) : Same H (upd H p o) := fun b u e => .inl (by
  rw [upd_ne (ne_of_none e n)]; exact e)
theorem same_then {p : Addr} {H H1 : Hp} {o : HO} (a : Same H H1) (n : H1 p = none) : Same H (upd H1 p o) := a.trans (same_new n)
/-- behind a new object's change -/
theorem Same.put {p : Addr} {H H1 : Hp} {o : HO} (a : Same H H1) (n : H p = none) : Same H (upd H1 p o) := fun b u e => (a b u e).over (ne_of_none e n)
theorem But.put {s p : Addr} {H H1 : Hp} {o : HO} (a : But s H H1) (n : H p = none) : But s H (upd H1 p o) := fun b u q e => (a b u q e).over (ne_of_none e n)
/-- the tables stand, whatever becomes of a list -/
theorem Tbs.but {ts : List Addr} {s : Addr} {H H' : Hp} (h : Tbs ts H) (e : But s H H') (l : ∃ xs, H s = some (.lst xs)) : Tbs ts H' := fun P hP => by
  have g := h P hP
  refine tabG_std g fun u k => e P u ?_ k
  obtain ⟨ps, e1, _⟩ := g
  obtain ⟨xs, e2⟩ := l
  intro z
  rw [z, e2] at e1
  cases e1
theorem Tbs.over {ts : List Addr} {p : Addr} {H : Hp} {o : HO} (h : Tbs ts H) (n : H p = none) : Tbs ts (upd H p o) := h.same (same_new n)
theorem Tbs.put {ts : List Addr} {p : Addr} {H : Hp} {o : HO} (h : Tbs ts H) (l : ∃ xs, H p = some (.lst xs)) : Tbs ts (upd H p o) := h.but But.at l
/-- what stands at s is the stream's list: no tuple -/
def Lst (H : Hp) (s : Addr) : Prop := ∃ xs, H s = some (.lst xs)
/-! ## tuples -/
section
variable {K : PySem.W.Frag} {H H' : Hp} {a p s : Addr} {xs : List V} {o : HO}
theorem tHere : SqT K (upd H p (.tup xs)) p xs := SqT.of upd_same
theorem tSame (e : Same H H') (h : SqT K H a xs) : SqT K H' a xs := by
  rcases h with (h | ⟨o, h⟩) | h
  · exact .inl (.inl (e.get h))
  · exact .inl (.inr ⟨o, e.get h⟩)
  · exact .inr h
theorem tOver (n : H p = none) (h : SqT K H a xs) : SqT K (upd H p o) a xs := tSame (same_new n) h
theorem tAt (n : ∃ ys, H s = some (.lst ys)) (h : SqT K H a xs) : SqT K (upd H s o) a xs := by
  obtain ⟨ys, n⟩ := n
  rcases h with (h | ⟨o, h⟩) | h
  · exact .inl (.inl (by rw [upd_ne (ne_of h n (by intro z; cases z))]; exact h))
  · exact .inl (.inr ⟨o, by rw [upd_ne (ne_of h n (by intro z; cases z))]; exact h⟩)
  · exact .inr h
theorem tBut (e : But s H H') (n : Lst H s) (h : SqT K H a xs) : SqT K H' a xs := by
  obtain ⟨ys, n⟩ := n
  rcases h with (h | ⟨o, h⟩) | h
  · exact .inl (.inl (e.get (ne_of h n (by intro z; cases z)) h))
  · exact .inl (.inr ⟨o, e.get (ne_of h n (by intro z; cases z)) h⟩)
  · exact .inr h
theorem lHere : SqL K (upd H p (.lst xs)) p xs := SqL.of upd_same
theorem lOver (n : H p = none) (h : SqL K H a xs) : SqL K (upd H p o) a xs := Same.seq (same_new n) h
theorem rOver (n : H p = none) {u : HO} (h : H a = some u) : upd H p o a = some u := by rw [upd_ne (ne_of_none h n)]; exact h
end
end My
namespace My
open PySem L2
/-! ## kinds of values -/
inductive Ty (K : PySem.W.Frag) (H : Hp) : V → String → Prop where
  | non : Ty K H .non "NoneType"
  | bl (b : Bool) : Ty K H (.bl b) "bool"
  | int (i : Int) : Ty K H (.int i) "int"
  | str (x : Str) : Ty K H (.str x) "str"
  | tup {a : Addr} {xs : List V} (h : SqT K H a xs) : Ty K H (.ref a) "tuple"
  | lst {a : Addr} {xs : List V} (h : SqL K H a xs) : Ty K H (.ref a) "list"
theorem Ty.x {K : PySem.W.Frag} {H : Hp} {v : V} {n : String} (h : Ty K H v n) : TyX K H v (.type n) := by
  cases h with
  | non => exact .base .non
  | bl b => exact .base (.bl b)
  | int i => exact .base (.int i)
  | str x => exact .base (.str x)
  | tup h =>
    rcases h with (h | ⟨o, h⟩) | ⟨o, its, n, e, c, _⟩
    · exact .base (.tup h)
    · exact .fTuple h
    · exact .kTuple e c
  | lst h =>
    rcases h with (h | ⟨o, h⟩) | ⟨o, its, n, e, c, _⟩
    · exact .base (.lst h)
    · exact .base (.frz h)
    · exact .kList e c
/-- isinstance's answers among these -/
def isaB (a b : String) : Bool := (kitB a b).getD false
theorem isa {K : PySem.W.Frag} {a b : String} (h : (kitB a b).isSome = true) : PySem.W.kitOne K (.type a) (.type b) = some (isaB a b) := by
  refine kit_ty ?_
  unfold isaB
  cases e : kitB a b with
  | none => rw [e] at h; cases h
  | some r => rfl
def six : List String := ["NoneType", "bool", "int", "str", "tuple", "list"]
theorem isa_all : (six.all fun a => six.tail.all fun b => (kitB a b).isSome) = true := by decide +kernel
theorem isa_tab : (six.all fun a => six.tail.all fun b => isaB a b == (a == b || (a == "bool" && b == "int"))) = true := by decide +kernel
theorem Ty.six {K : PySem.W.Frag} {H : Hp} {v : V} {n : String} (h : Ty K H v n) : n ∈ six := by
  cases h <;> simp [My.six]
theorem isaN {K : PySem.W.Frag} {n b : String} (h : n ∈ My.six) (hb : b ∈ My.six.tail) : PySem.W.kitOne K (.type n) (.type b) = some (n == b || (n == "bool" && b == "int")) := by
  have h1 := List.all_eq_true.mp (List.all_eq_true.mp isa_all n h) b hb
  have h2 := List.all_eq_true.mp (List.all_eq_true.mp isa_tab n h) b hb
  rw [isa h1, eq_of_beq h2]
theorem small {n : Nat} (h : Nat.ble n 100 = true) : n ≤ sizeLine := Nat.le_trans (Nat.le_of_ble_eq_true h) (by decide)
/-! ## indexes -/
theorem at0 {α : Type} {a : α} {r : List α} : atI (a :: r) 0 = some a := atI_nat (j := 0) rfl
theorem at1 {α : Type} {a b : α} {r : List α} : atI (a :: b :: r) 1 = some b := atI_nat (j := 1) rfl
theorem at2 {α : Type} {a b c : α} {r : List α} : atI (a :: b :: c :: r) 2 = some c := atI_nat (j := 2) rfl
theorem at3 {α : Type} {a b c d : α} {r : List α} : atI (a :: b :: c :: d :: r) 3 = some d := atI_nat (j := 3) rfl
end My
namespace My
open PySem L2
/-! ## points -/
def coordB : V → Bool
  | .int i => decide (-1000 ≤ i) && decide (i ≤ 1000)
  | _ => false
def pointB : List V → Bool
  | [u, v] => coordB u && coordB v
  | _ => false
/-- small enough to be multiplied -/
def Sm (x : Int) : Prop := -1099511627776 ≤ x ∧ x ≤ 1099511627776
def turnI (ax ay bx dy cx cy : Int) : Int := (bx - ax) * (cy - ay) - (dy - ay) * (cx - ax)
/-- whether a point's numbers are those of the map -/
def On (x y : Int) : Prop := -1000 ≤ x ∧ x ≤ 1000 ∧ -1000 ≤ y ∧ y ≤ 1000
theorem On.b {x y : Int} (h : On x y) : pointB [.int x, .int y] = true := by
  obtain ⟨h1, h2, h3, h4⟩ := h
  simp [pointB, coordB, h1, h2, h3, h4]
theorem On.sx {x y : Int} (h : On x y) : Sm x := by unfold On at h; unfold Sm; omega
theorem On.sy {x y : Int} (h : On x y) : Sm y := by unfold On at h; unfold Sm; omega
/-! ## the stream of a law -/
/-- at s: a stream: a list of ints, the cell, its number -/
def Strm (H : Hp) (s b : Addr) : Prop := ∃ (ns : List Int) (c k : Int), H b = some (.lst (ns.map V.int)) ∧ H s = some (.lst [.ref b, .int c, .int k]) ∧ 0 ≤ c ∧ 0 ≤ k
theorem Strm.lst {H : Hp} {s b : Addr} (h : Strm H s b) : Lst H s := by
  obtain ⟨_, _, _, _, h, _⟩ := h
  exact ⟨_, h⟩
theorem tyL {K : PySem.W.Frag} {H : Hp} {p : Addr} {xs : List V} (h : H p = some (.lst xs)) : tyV K "list" (.ref p) H := .inl ⟨rfl, xs, SqL.of h⟩
theorem Strm.same {H H' : Hp} {s b : Addr} (h : Strm H s b) (e : Same H H') : Strm H' s b := by
  obtain ⟨ns, c, k, h1, h2, h3, h4⟩ := h
  exact ⟨ns, c, k, e.get h1 (by intro _ z; cases z), e.get h2, h3, h4⟩
theorem Strm.over {H : Hp} {s b p : Addr} {o : HO} (h : Strm H s b) (n : H p = none) : Strm (upd H p o) s b := h.same (same_new n)
/-- a list of the law's own grows -/
theorem Strm.at {H : Hp} {s b p : Addr} {o : HO} (h : Strm H s b) (n1 : p ≠ s) (n2 : p ≠ b) : Strm (upd H p o) s b := by
  obtain ⟨ns, c, k, h1, h2, h3, h4⟩ := h
  exact ⟨ns, c, k, by rw [upd_ne n2.symm]; exact h1, by rw [upd_ne n1.symm]; exact h2, h3, h4⟩
theorem Strm.new1 {H : Hp} {s b p : Addr} (h : Strm H s b) (n : H p = none) : p ≠ s := by
  obtain ⟨ns, c, k, h1, h2, h3, h4⟩ := h
  exact (ne_of_none h2 n).symm
theorem Strm.new2 {H : Hp} {s b p : Addr} (h : Strm H s b) (n : H p = none) : p ≠ b := by
  obtain ⟨ns, c, k, h1, h2, h3, h4⟩ := h
  exact (ne_of_none h1 n).symm
theorem ints_no_ref {ns : List Int} {b : Addr} {r : List V} : HO.lst (ns.map V.int) ≠ HO.lst (.ref b :: r) := by
  intro e
  cases ns with
  | nil => injection e with e; cases e
  | cons n ns => injection e with e; injection e with e _; cases e
/-- the two objects of a stream stand apart -/
theorem Strm.ne {H : Hp} {b s : Addr} {ns : List Int} {x : Addr} {r : List V} (h1 : H b = some (.lst (ns.map V.int))) (h2 : H s = some (.lst (.ref x :: r))) : b ≠ s := ne_of h1 h2 ints_no_ref
/-! ## digits -/
theorem fmod_lt {a m : Int} (hm : 0 < m) : a.fmod m < m := by
  rw [Int.fmod_eq_emod_of_nonneg _ (Int.le_of_lt hm)]; exact Int.emod_lt_of_pos _ hm
theorem fmod_ge {a m : Int} (hm : 0 < m) : 0 ≤ a.fmod m := by
  rw [Int.fmod_eq_emod_of_nonneg _ (Int.le_of_lt hm)]; exact Int.emod_nonneg _ (by omega)
theorem div_ge {a m : Int} (ha : 0 ≤ a) (hm : 0 < m) : 0 ≤ a / m := Int.ediv_nonneg ha (Int.le_of_lt hm)
end My
namespace My
open PySem L2
/-! ## two values with the same content, to a depth below n -/
inductive Dq (K : PySem.W.Frag) (H : Hp) : Nat → V → V → Prop where
  | non (n : Nat) : Dq K H (n + 1) .non .non
  | bl (n : Nat) (b : Bool) : Dq K H (n + 1) (.bl b) (.bl b)
  | int (n : Nat) (i : Int) : Dq K H (n + 1) (.int i) (.int i)
  | str (n : Nat) (x : Str) : Dq K H (n + 1) (.str x) (.str x)
  | lst {n : Nat} {a b : Addr} {xs ys : List V} (h1 : SqL K H a xs) (h2 : SqL K H b ys) (hl : xs.length = ys.length) (hz : ys.length ≤ 1000)
      (h : ∀ (i : Nat) u v, xs[i]? = some u → ys[i]? = some v → Dq K H n u v) : Dq K H (n + 1) (.ref a) (.ref b)
  | tup {n : Nat} {a b : Addr} {xs ys : List V} (h1 : SqT K H a xs) (h2 : SqT K H b ys) (hl : xs.length = ys.length) (hz : ys.length ≤ 1000)
      (h : ∀ (i : Nat) u v, xs[i]? = some u → ys[i]? = some v → Dq K H n u v) : Dq K H (n + 1) (.ref a) (.ref b)
theorem Dq.same {K : PySem.W.Frag} {H H' : Hp} (e : Same H H') {n : Nat} {x y : V} (h : Dq K H n x y) : Dq K H' n x y := by
  induction h with
  | non n => exact .non n
  | bl n b => exact .bl n b
  | int n i => exact .int n i
  | str n x => exact .str n x
  | lst h1 h2 hl hz _ ih => exact .lst (e.seq h1) (e.seq h2) hl hz ih
  | tup h1 h2 hl hz _ ih => exact .tup (tSame e h1) (tSame e h2) hl hz ih
theorem get_at {xs : List V} {i : Nat} (h : i < xs.length) : xs[i]? = some xs[i] := List.getElem?_eq_getElem h
end My
namespace My
open PySem L2
section
variable {K : PySem.W.Frag} {H H' : Hp} {a p s : Addr} {xs : List V} {o : HO}
/-- a new list stands behind a draw -/
theorem rBut {b : Addr} (e : But s (upd H p o) H') (n : H p = none) (S : Strm H s b) (nt : NT o := by intro _ z; cases z) : H' p = some o := by
  obtain ⟨ns, c, k, h1, h2, _⟩ := S
  exact e.get (ne_of_none h2 n).symm upd_same nt
theorem tButS {b : Addr} (e : But s H H') (S : Strm H s b) (h : SqT K H a xs) : SqT K H' a xs := tBut e S.lst h
end
/-- one of the four -/
def Far (f : Int) : Prop := f = 2 ∨ f = 4 ∨ f = 9 ∨ f = 1000
theorem Far.le {f : Int} (h : Far f) : 2 ≤ f ∧ f ≤ 1000 := by unfold Far at h; omega
/-- a point within far -/
def In (f x y : Int) : Prop := -f ≤ x ∧ x ≤ f ∧ -f ≤ y ∧ y ≤ f
theorem In.on {f x y : Int} (h : In f x y) (hf : f ≤ 1000) : On x y := by unfold In at h; unfold On; omega
theorem atThree {α : Type} {a b c : α} {i : Int} (h0 : 0 ≤ i) (h1 : i < 3) : ∃ v, atI [a, b, c] i = some v ∧ (v = a ∨ v = b ∨ v = c) := by
  rcases (show i = 0 ∨ i = 1 ∨ i = 2 by omega) with rfl | rfl | rfl
  · exact ⟨_, at0, .inl rfl⟩
  · exact ⟨_, at1, .inr (.inl rfl)⟩
  · exact ⟨_, at2, .inr (.inr rfl)⟩
/-! ## turns -/
theorem turn_cyc (ax ay bx dy cx cy : Int) : turnI bx dy cx cy ax ay = turnI ax ay bx dy cx cy := by unfold turnI; grind
theorem turn_swap (ax ay bx dy cx cy : Int) : turnI bx dy ax ay cx cy = 0 - turnI ax ay bx dy cx cy := by unfold turnI; grind
end My
namespace My
open PySem L2
theorem two_ints {K : PySem.W.Frag} {H : Hp} {x y : Int} : ∀ v ∈ [V.int x, V.int y], ∃ m, Ty K H v m := by
  intro v hv
  rcases List.mem_cons.mp hv with rfl | hv
  · exact ⟨_, .int _⟩
  · rcases List.mem_cons.mp hv with rfl | hv
    · exact ⟨_, .int _⟩
    · cases hv
end My
namespace My
open PySem L2
/-! ## lists of points: each with where it stands -/
abbrev Zp := Addr × Int × Int
/-- what a list of points holds -/
abbrev refs (zs : List Zp) : List V := zs.map fun z => V.ref z.1
def Pts (K : PySem.W.Frag) (H : Hp) (zs : List Zp) : Prop := ∀ z ∈ zs, SqT K H z.1 [.int z.2.1, .int z.2.2]
section
variable {K : PySem.W.Frag} {H H' : Hp} {s b D p : Addr} {zs : List Zp} {z : Zp} {o : HO}
theorem Pts.nil : Pts K H [] := fun _ h => by cases h
theorem Pts.same (e : Same H H') (h : Pts K H zs) : Pts K H' zs := fun z hz => tSame e (h z hz)
theorem Pts.but (e : But s H H') (S : Strm H s b) (h : Pts K H zs) : Pts K H' zs := fun z hz => tButS e S (h z hz)
theorem Pts.over (n : H p = none) (h : Pts K H zs) : Pts K (upd H p o) zs := h.same (same_new n)
theorem Pts.at (n : ∃ ys, H D = some (.lst ys)) (h : Pts K H zs) : Pts K (upd H D o) zs := fun z hz => tAt n (h z hz)
theorem Pts.one (h : SqT K H z.1 [.int z.2.1, .int z.2.2]) : Pts K H [z] := fun y hy => by
  rw [List.mem_singleton] at hy; rw [hy]; exact h
theorem Pts.app {ys : List Zp} (h : Pts K H zs) (g : Pts K H ys) : Pts K H (zs ++ ys) := fun y hy =>
  (List.mem_append.mp hy).elim (h y) (g y)
theorem Pts.get (h : Pts K H zs) {i : Nat} (e : zs[i]? = some z) : SqT K H z.1 [.int z.2.1, .int z.2.2] := h z (List.mem_of_getElem? e)
end
theorem three_of {α : Type} {xs : List α} (h : xs.length = 3) : ∃ a b c, xs = [a, b, c] := by
  match xs, h with
  | [a, b, c], _ => exact ⟨a, b, c, rfl⟩
theorem line_of {n : Nat} (h : n ≤ 1000) : n < sizeLine := small1000 h
end My
namespace My
open PySem L2
/-! ## greatest common divisors -/
theorem op_fdivV {X : Cx} : OpR X (binaryOp .FloorDiv) (rI (fun _ j => j ≠ 0 ∧ j.natAbs < 2 ^ 9000) fun i j => .int (i.fdiv j)) := opI fun i j _ _ _ _ _ hc q =>
  PyProof.Rows.floordiv_int hc.1 q (.inl (PyProof.noPylong_of_log2 (by
    by_cases z : j.natAbs = 0
    · rw [z]; decide
    · exact (Nat.log2_lt z).mpr hc.2)))
/-- the state of Euclid's loop behind i turns -/
structure GI (n d M i x y : Nat) : Prop where
  g : Nat.gcd x y = Nat.gcd n d
  hy : y * 2 ^ (i / 2) ≤ M
  hx : x * 2 ^ ((i - 1) / 2) ≤ M
  le : 1 ≤ i → y ≤ x
theorem GI.start {n d M : Nat} (h1 : n ≤ M) (h2 : d ≤ M) : GI n d M 0 n d := ⟨rfl, by simpa using h2, by simpa using h1, fun h => absurd h (by decide)⟩
theorem mod_half {x y : Nat} (h0 : 0 < y) (h : y ≤ x) : 2 * (x % y) ≤ x := by
  have h1 := Nat.mod_lt x h0
  have h2 := Nat.div_add_mod x y
  have h3 : 1 ≤ x / y := (Nat.le_div_iff_mul_le h0).mpr (by omega)
  have h4 : y * 1 ≤ y * (x / y) := Nat.mul_le_mul_left y h3
  omega
theorem GI.step {n d M i x y : Nat} (h : GI n d M i x y) (h0 : 0 < y) : GI n d M (i + 1) y (x % y) := by
  have hm := Nat.mod_lt x h0
  refine ⟨?_, ?_, ?_, fun _ => Nat.le_of_lt hm⟩
  · rw [← h.g, Nat.gcd_comm x y, Nat.gcd_rec y x, Nat.gcd_comm]
  · by_cases hi : 1 ≤ i
    · have e : (i + 1) / 2 = (i - 1) / 2 + 1 := by omega
      rw [e, Nat.pow_succ]
      have h2 := mod_half h0 (h.le hi)
      have h3 : 2 * (x % y) * 2 ^ ((i - 1) / 2) ≤ x * 2 ^ ((i - 1) / 2) := Nat.mul_le_mul_right _ h2
      have h4 := h.hx
      have e2 : x % y * (2 ^ ((i - 1) / 2) * 2) = 2 * (x % y) * 2 ^ ((i - 1) / 2) := by
        rw [Nat.mul_comm (2 ^ ((i - 1) / 2)) 2, ← Nat.mul_assoc, Nat.mul_comm (x % y) 2]
      omega
    · have e : i = 0 := by omega
      subst e
      have h4 : y * 2 ^ (0 / 2) ≤ M := h.hy
      have h5 : y * 2 ^ (0 / 2) = y := Nat.mul_one y
      show x % y * 2 ^ ((0 + 1) / 2) ≤ M
      have e2 : x % y * 2 ^ ((0 + 1) / 2) = x % y := Nat.mul_one _
      omega
  · have e : (i + 1 - 1) / 2 = i / 2 := by omega
    rw [e]
    exact h.hy
theorem GI.done {n d x y k : Nat} (h : GI n d (2 ^ k) 40000 x y) (hk : k < 20000) : y = 0 := by
  rcases Nat.eq_zero_or_pos y with z | z
  · exact z
  · have h1 : y * 2 ^ 20000 ≤ 2 ^ k := h.hy
    have h2 : 1 * 2 ^ 20000 ≤ y * 2 ^ 20000 := Nat.mul_le_mul_right _ z
    have h3 : 2 ^ k < 2 ^ 20000 := Nat.pow_lt_pow_right (by decide) hk
    rw [Nat.one_mul] at h2
    exact absurd (Nat.le_trans h2 h1) (Nat.not_le.mpr h3)
theorem abs_nat (i : Int) : (if i < 0 then -i else i) = (i.natAbs : Int) := by split <;> omega
theorem fmod_nat (x y : Nat) : ((x : Int).fmod (y : Int)) = ((x % y : Nat) : Int) := by
  rw [Int.fmod_eq_emod_of_nonneg _ (Int.natCast_nonneg y), Int.natCast_emod]
/-- the divisor with the sign of d -/
def sgcd (n d : Int) : Int := if d < 0 then 0 - (Nat.gcd n.natAbs d.natAbs : Int) else (Nat.gcd n.natAbs d.natAbs : Int)
def lowN (n d : Int) : Int := n.fdiv (sgcd n d)
def lowD (n d : Int) : Int := d.fdiv (sgcd n d)
theorem gcd_pos {n d : Int} (h : d ≠ 0) : 0 < Nat.gcd n.natAbs d.natAbs := Nat.gcd_pos_of_pos_right _ (by omega)
theorem sgcd_ne {n d : Int} (h : d ≠ 0) : sgcd n d ≠ 0 := by
  have := gcd_pos (n := n) h
  unfold sgcd
  split <;> omega
theorem sgcd_le {n d : Int} (h : d ≠ 0) : (sgcd n d).natAbs ≤ d.natAbs := by
  have h1 : Nat.gcd n.natAbs d.natAbs ≤ d.natAbs := Nat.le_of_dvd (by omega) (Nat.gcd_dvd_right _ _)
  unfold sgcd
  split <;> omega
/-- what the lowest terms are -/
structure LowOk (n d N D : Int) : Prop where
  mul : ∃ g : Int, g ≠ 0 ∧ n = g * N ∧ d = g * D
  pos : 0 < D
  one : Nat.gcd N.natAbs D.natAbs = 1
theorem fdiv_mul {g x : Int} (h : g ≠ 0) : (g * x).fdiv g = x := by
  rw [Int.fdiv_eq_ediv_of_dvd (Int.dvd_mul_right g x), Int.mul_ediv_cancel_left _ h]
theorem low_ok {n d : Int} (h : d ≠ 0) : LowOk n d (lowN n d) (lowD n d) := by
  have hg := gcd_pos (n := n) h
  have hs := sgcd_ne (n := n) h
  obtain ⟨a, ha⟩ := Nat.gcd_dvd_left n.natAbs d.natAbs
  obtain ⟨b, hb⟩ := Nat.gcd_dvd_right n.natAbs d.natAbs
  have co : Nat.gcd a b = 1 := by
    have e : Nat.gcd (Nat.gcd n.natAbs d.natAbs * a) (Nat.gcd n.natAbs d.natAbs * b) = Nat.gcd n.natAbs d.natAbs * Nat.gcd a b := Nat.gcd_mul_left _ _ _
    rw [← ha, ← hb] at e
    have e' : Nat.gcd n.natAbs d.natAbs * 1 = Nat.gcd n.natAbs d.natAbs * Nat.gcd a b := by rw [Nat.mul_one]; exact e
    exact (Nat.eq_of_mul_eq_mul_left hg e').symm
  -- both as multiples of the divisor
  have dn : sgcd n d ∣ n := by
    have : ((Nat.gcd n.natAbs d.natAbs : Nat) : Int) ∣ n := Int.ofNat_dvd_left.mpr (Nat.gcd_dvd_left _ _)
    unfold sgcd
    split
    · rw [Int.zero_sub]; exact Int.neg_dvd.mpr this
    · exact this
  have dd : sgcd n d ∣ d := by
    have : ((Nat.gcd n.natAbs d.natAbs : Nat) : Int) ∣ d := Int.ofNat_dvd_left.mpr (Nat.gcd_dvd_right _ _)
    unfold sgcd
    split
    · rw [Int.zero_sub]; exact Int.neg_dvd.mpr this
    · exact this
  obtain ⟨N, hN⟩ := dn
  obtain ⟨D, hD⟩ := dd
  have eN : lowN n d = N := by
    unfold lowN
    rw [show n.fdiv (sgcd n d) = (sgcd n d * N).fdiv (sgcd n d) from congrArg (fun z => Int.fdiv z (sgcd n d)) hN]
    exact fdiv_mul hs
  have eD : lowD n d = D := by
    unfold lowD
    rw [show d.fdiv (sgcd n d) = (sgcd n d * D).fdiv (sgcd n d) from congrArg (fun z => Int.fdiv z (sgcd n d)) hD]
    exact fdiv_mul hs
  have sa : (sgcd n d).natAbs = Nat.gcd n.natAbs d.natAbs := by unfold sgcd; split <;> omega
  have aN : N.natAbs = a := by
    have e := congrArg Int.natAbs hN
    rw [Int.natAbs_mul, sa] at e
    exact Nat.eq_of_mul_eq_mul_left hg (e.symm.trans ha)
  have aD : D.natAbs = b := by
    have e := congrArg Int.natAbs hD
    rw [Int.natAbs_mul, sa] at e
    exact Nat.eq_of_mul_eq_mul_left hg (e.symm.trans hb)
  rw [eN, eD]
  refine ⟨⟨_, hs, hN, hD⟩, ?_, by rw [aN, aD]; exact co⟩
  -- the sign
  have sg : (d < 0 → sgcd n d < 0) ∧ (0 ≤ d → 0 < sgcd n d) := by unfold sgcd; split <;> omega
  by_cases hd : d < 0
  · have s1 := sg.1 hd
    by_cases hp : 0 < D
    · exact hp
    · exfalso
      have : 0 ≤ sgcd n d * D := Int.mul_nonneg_of_nonpos_of_nonpos (by omega) (by omega)
      omega
  · have s1 := sg.2 (by omega)
    by_cases hp : 0 < D
    · exact hp
    · exfalso
      have : sgcd n d * D ≤ 0 := Int.mul_nonpos_of_nonneg_of_nonpos (by omega) (by omega)
      omega
theorem LowOk.leN {n d N D : Int} (h : LowOk n d N D) : N.natAbs ≤ n.natAbs := by
  obtain ⟨⟨g, hg, h1, _⟩, _, _⟩ := h
  rw [h1, Int.natAbs_mul]
  exact Nat.le_mul_of_pos_left _ (by omega)
theorem LowOk.leD {n d N D : Int} (h : LowOk n d N D) : D.natAbs ≤ d.natAbs := by
  obtain ⟨⟨g, hg, _, h1⟩, _, _⟩ := h
  rw [h1, Int.natAbs_mul]
  exact Nat.le_mul_of_pos_left _ (by omega)
/-! ## fractions as values -/
def fracB : List V → Bool
  | [.int n, .int d] => decide (1 ≤ d) && (Nat.gcd n.natAbs d.natAbs == 1)
  | _ => false
/-- x is a value of which is_fraction is b -/
def FV (K : PySem.W.Frag) (H : Hp) (x : V) (b : Bool) : Prop := ∃ n, Ty K H x n ∧ (n = "tuple" → ∃ a xs, x = .ref a ∧ SqT K H a xs ∧ (∀ v ∈ xs, ∃ m, Ty K H v m) ∧ b = fracB xs) ∧ (n ≠ "tuple" → b = false)
theorem Ty.same {K : PySem.W.Frag} {H H' : Hp} (e : Same H H') {v : V} {n : String} (h : Ty K H v n) : Ty K H' v n := by
  cases h with
  | non => exact .non
  | bl b => exact .bl b
  | int i => exact .int i
  | str x => exact .str x
  | tup h => exact .tup (tSame e h)
  | lst h => exact .lst (e.seq h)
theorem FV.same {K : PySem.W.Frag} {H H' : Hp} (e : Same H H') {x : V} {b : Bool} (h : FV K H x b) : FV K H' x b := by
  obtain ⟨n, t, h1, h2⟩ := h
  refine ⟨n, t.same e, fun q => ?_, h2⟩
  obtain ⟨a, xs, e1, e2, e3, e4⟩ := h1 q
  exact ⟨a, xs, e1, tSame e e2, fun v hv => by obtain ⟨m, hm⟩ := e3 v hv; exact ⟨m, hm.same e⟩, e4⟩
theorem FV.tup {K : PySem.W.Frag} {H : Hp} {a : Addr} {xs : List V} (h : SqT K H a xs) (hm : ∀ v ∈ xs, ∃ m, Ty K H v m) : FV K H (.ref a) (fracB xs) :=
  ⟨"tuple", .tup h, fun _ => ⟨a, xs, rfl, h, hm, rfl⟩, fun q => absurd rfl q⟩
theorem FV.ok {K : PySem.W.Frag} {H : Hp} {a : Addr} {n d : Int} (h : SqT K H a [.int n, .int d]) (h1 : 0 < d) (h2 : Nat.gcd n.natAbs d.natAbs = 1) : FV K H (.ref a) true := by
  have e : fracB [.int n, .int d] = true := by
    show (decide (1 ≤ d) && (Nat.gcd n.natAbs d.natAbs == 1)) = true
    rw [h2, decide_eq_true (show 1 ≤ d by omega)]
    rfl
  rw [← e]
  exact FV.tup h two_ints
end My
namespace My
open PySem L2
theorem pow200 {i : Int} (h : i.natAbs ≤ 2 ^ 200) : i.natAbs < 2 ^ 9000 := Nat.lt_of_le_of_lt h (Nat.pow_lt_pow_right (by decide) (by decide))
end My
namespace My
open PySem L2
/-! ## fractions at an address -/
structure FrAt (K : PySem.W.Frag) (H : Hp) (a : Addr) (n d : Int) : Prop where
  at_ : SqT K H a [.int n, .int d]
  pos : 0 < d
  one : Nat.gcd n.natAbs d.natAbs = 1
  bn : n.natAbs ≤ 2 ^ 67
  bd : d.natAbs ≤ 2 ^ 50
section
variable {K : PySem.W.Frag} {H H' : Hp} {s b p a c D : Addr} {n d m e : Int} {o : HO}
theorem FrAt.same (e : Same H H') (h : FrAt K H a n d) : FrAt K H' a n d := { h with at_ := tSame e h.at_ }
theorem FrAt.but (e : But s H H') (S : Strm H s b) (h : FrAt K H a n d) : FrAt K H' a n d := { h with at_ := tButS e S h.at_ }
theorem FrAt.over (q : H p = none) (h : FrAt K H a n d) : FrAt K (upd H p o) a n d := h.same (same_new q)
theorem FrAt.put (q : ∃ ys, H D = some (.lst ys)) (h : FrAt K H a n d) : FrAt K (upd H D o) a n d := { h with at_ := tAt q h.at_ }
theorem wide {i j : Int} {x y : Nat} (hi : i.natAbs ≤ 2 ^ x) (hj : j.natAbs ≤ 2 ^ y) (h : x + y + 2 ≤ 1000000 := by decide) : CMulW i j :=
  wide_mul (a := x + 1) (b := y + 1) (Nat.lt_of_le_of_lt hi (Nat.pow_lt_pow_right (by decide) (by omega))) (Nat.lt_of_le_of_lt hj (Nat.pow_lt_pow_right (by decide) (by omega))) (by omega) (by omega) (by omega)
theorem mul_le {i j : Int} {x y : Nat} (hi : i.natAbs ≤ 2 ^ x) (hj : j.natAbs ≤ 2 ^ y) : (i * j).natAbs ≤ 2 ^ (x + y) := by
  rw [Int.natAbs_mul, Nat.pow_add]; exact Nat.mul_le_mul hi hj
theorem pow_up {i : Int} {x y : Nat} (h : i.natAbs ≤ 2 ^ x) (hy : x ≤ y := by decide) : i.natAbs ≤ 2 ^ y := Nat.le_trans h (Nat.pow_le_pow_right (by decide) hy)
theorem add_le {i j : Int} {x : Nat} (hi : i.natAbs ≤ 2 ^ x) (hj : j.natAbs ≤ 2 ^ x) : (i + j).natAbs ≤ 2 ^ (x + 1) := by
  have := Int.natAbs_add_le i j
  rw [Nat.pow_succ]; omega
theorem sub_le {i j : Int} {x : Nat} (hi : i.natAbs ≤ 2 ^ x) (hj : j.natAbs ≤ 2 ^ x) : (i - j).natAbs ≤ 2 ^ (x + 1) := by
  have := Int.natAbs_sub_le i j
  rw [Nat.pow_succ]; omega
theorem mul_ne {i j : Int} (hi : 0 < i) (hj : 0 < j) : i * j ≠ 0 := by
  have := Int.mul_pos hi hj; omega
end
/-! ## what a try of the law tells -/
abbrev Rs := (Int × Int) ⊕ Str ⊕ Bool
def TV (K : PySem.W.Frag) (H : Hp) (v : V) : Rs → Prop
  | .inl (a, b) => ∃ p, v = .ref p ∧ SqT K H p [.int a, .int b]
  | .inr (.inl s) => ∃ p, v = .ref p ∧ SqL K H p [.str "refused", .str s]
  | .inr (.inr b) => v = .bl b
theorem TV.same {K : PySem.W.Frag} {H H' : Hp} (e : Same H H') {v : V} {r : Rs} (h : TV K H v r) : TV K H' v r := by
  match r, h with
  | .inl (a, b), ⟨p, e1, h⟩ => exact ⟨p, e1, tSame e h⟩
  | .inr (.inl s), ⟨p, e1, h⟩ => exact ⟨p, e1, e.seq h⟩
  | .inr (.inr b), h => exact h
theorem lAt {K : PySem.W.Frag} {H : Hp} {a D : Addr} {xs : List V} {o : HO} (n : a ≠ D) (h : SqL K H a xs) : SqL K (upd H D o) a xs := by
  rcases h with (h | ⟨o, h⟩) | h
  · exact .inl (.inl (by rw [upd_ne n]; exact h))
  · exact .inl (.inr ⟨o, by rw [upd_ne n]; exact h⟩)
  · exact .inr h
theorem TV.put {K : PySem.W.Frag} {H : Hp} {D : Addr} {o : HO} (q : ∃ ys, H D = some (.lst ys)) {v : V} {r : Rs} (n : v ≠ .ref D) (h : TV K H v r) : TV K (upd H D o) v r := by
  match r, h with
  | .inl (a, b), ⟨p, e1, h⟩ => exact ⟨p, e1, tAt q h⟩
  | .inr (.inl s), ⟨p, e1, h⟩ => exact ⟨p, e1, lAt (fun z => n (by rw [e1, z])) h⟩
  | .inr (.inr b), h => exact h
theorem two_get {α : Type} {P : α → α → Prop} {a b c d : α} (h0 : P a c) (h1 : P b d) : ∀ (i : Nat) u v, [a, b][i]? = some u → [c, d][i]? = some v → P u v := by
  intro i u v hu hv
  rcases (show i = 0 ∨ i = 1 by have := (List.getElem?_eq_some_iff.mp hu).1; simp at this; omega) with rfl | rfl
  · cases hu; cases hv; exact h0
  · cases hu; cases hv; exact h1
end My
namespace PySem
namespace BvX
open PySem.W PySem.Calls PyProof.Rows PySem.HandSPX
/-! ### the text of __init__ -/
def iA (p1 p2 : Pos) : Arguments := { posonlyargs := [], args := [{ arg := "self", annotation := none, pos := p1 }, { arg := "name", annotation := none, pos := p2 }], vararg := none, kwonlyargs := [], kw_defaults := [], kwarg := none, defaults := [] }
def iB (q1 q2 q3 q4 : Pos) : List Stmt := [.Assign [.Attribute (.Name "self" q1) "name" q2] (.Name "name" q3) q4]
def iS : Scope := { kind := .function, names := [(PySem.Str.ofString "self", .local), (PySem.Str.ofString "name", .local)], isGenerator := false, isCoroutine := false, more := [] }
/-- what the written part says of Low, at C, and of its __init__, at fI -/
structure BvTxt (K : Frag) (mg : Str → Option Value) (C fI : Addr) : Prop where
  gC : mg "BadValue" = some (.ref C)
  cls : ∃ nm q N bs bm sn sub ab col dd k0 k1 k2 k3 k5, K.lookup C = some (excClassObj nm q C N bs bm true sn sub ab col dd k0 k1 k2 k3 k5 "ValueError.__new__") ∧ refsVE bm = true
  sa : findIn K (.ref C) "__setattr__" = some (some (.builtin "object.__setattr__"))
  ga : findIn K (.ref C) "__getattribute__" = some (some (.builtin "BaseException.__getattribute__"))
  gg : findIn K (.ref C) "__getattr__" = some none
  noN : findIn K (.ref C) "name" = some none
  iC : findIn K (.ref C) "__init__" = some (some (.ref fI))
  tC : typeIn K (.ref fI) = some (.type "function")
  kC : keepIn K (.ref C) = true
  exC : subIn K (.ref C) (.type "BaseException") = some true
  tyC : typeIn K (.ref C) = some (.type "type")
  hdC : hasDictIn K C = true
  te : exmOne K (.ref C) (.ref C) = some true
  fn : ∃ (oc : Value) (od : Option Addr) (doc pm : Value) (an : Option Addr) (cdv ct : Value) (osl : Array (Option Value)) (p1 p2 q1 q2 q3 q4 : Pos),
    K.lookup fI = some ⟨oc, od, .func (fnOf "__init__" "BadValue.__init__" (iA p1 p2) (iB q1 q2 q3 q4) iS .none .none doc pm an cdv ct), osl⟩ ∧ codeIn K cdv "BadValue.__init__" = true
end BvX
end PySem
namespace L2
open PySem PySem.Spec PyProof.Rows
end L2
namespace L2
open PySem PySem.Spec PyProof.Rows
end L2
namespace My
open PySem L2
/-- an error of the class at S is what «except S» names -/
theorem exm_self {K : PySem.W.Frag} {S : Addr} (h1 : PySem.W.subIn K (.ref S) (.type "BaseException") = some true) (h2 : PySem.W.isClsIn K S = true) (h3 : PySem.W.typeIn K (.ref S) = some (.type "type")) (h4 : PySem.W.subIn K (.ref S) (.ref S) = some true) :
    PySem.W.exmOne K (.ref S) (.ref S) = some true := by
  have e1 : (PySem.W.subIn K (.ref S) (.type "BaseException") == some true) = true := by rw [h1] <;> rfl
  have e2 : ((PySem.W.clsIn K S).isSome && PySem.W.typeIn K (.ref S) == some (.type "type")) = true := by
    have h2' : (PySem.W.clsIn K S).isSome = true := h2
    rw [h2', h3] <;> rfl
  show (if (PySem.W.subIn K (.ref S) (.type "BaseException") == some true) = true then (if ((PySem.W.clsIn K S).isSome && PySem.W.typeIn K (.ref S) == some (.type "type")) = true then PySem.W.subIn K (.ref S) (.ref S) else none) else none) = some true
  rw [if_pos e1, if_pos e2]
  exact h4
end My
namespace L2
open PySem PySem.Spec PyProof.Rows
end L2
namespace PySem
namespace Gx
open PySem.W PySem.Calls PyProof.Rows
section
variable {prog : Program} {w : World} {A : Around} {R : Result → Shared → Prop} {I : Addr}
/-- all's loop: m bounds the turns that are left -/
theorem all_loop (W : Nat → Shared → Prop) (step : ∀ m s, W m s → wpAny (model prog w) A.in1 (pyNext (.ref I)) (fun r s' => match r with
    | none => R (.ok (.ret (.bool true))) s'
    | some v => ∃ b, v = .bool b ∧ if b = true then ∃ m', m' < m ∧ W m' s' else R (.ok (.ret (.bool false))) s') (fun e s' => R (.error e) s') s) :
    ∀ (m : Nat) (s : Shared), W m s → codeAny (model prog w) A (.builtin "all.loop" ⟨[.ref I], []⟩) R s := by
  intro m
  induction m using Nat.strongRecOn with
  | ind m ih =>
    intro s hW
    refine codeAny_builtin F.entry_all_loop ?_
    rw [Around.under_plainId F.plain_all_loop _]
    show wpAny _ A.in1 (pyNext (.ref I) >>= _) _ _ s
    refine wpAny_bind (wpAny_mono (step m s hW) (fun r s' h => ?_) fun _ _ e => e)
    cases r with
    | none => exact wpAny_bind (wpAny_rule (wpAny_pure h))
    | some v =>
      obtain ⟨b, rfl, h⟩ := h
      refine wpAny_bind (wpAny_holding (wpAny_truthy_bool ?_))
      refine wpAny_bind (wpAny_letGo ?_)
      cases b with
      | true =>
        simp only [if_true] at h ⊢
        obtain ⟨m', hm, hW'⟩ := h
        exact wpAny_pure ⟨plainId_quiet F.plain_all_loop _, ih m' hm s' hW'⟩
      | false =>
        simp only [Bool.false_eq_true, if_false] at h ⊢
        exact wpAny_bind (wpAny_rule (wpAny_pure h))
theorem any_loop (W : Nat → Shared → Prop) (step : ∀ m s, W m s → wpAny (model prog w) A.in1 (pyNext (.ref I)) (fun r s' => match r with
    | none => R (.ok (.ret (.bool false))) s'
    | some v => ∃ b, v = .bool b ∧ if b = true then R (.ok (.ret (.bool true))) s' else ∃ m', m' < m ∧ W m' s') (fun e s' => R (.error e) s') s) :
    ∀ (m : Nat) (s : Shared), W m s → codeAny (model prog w) A (.builtin "any.loop" ⟨[.ref I], []⟩) R s := by
  intro m
  induction m using Nat.strongRecOn with
  | ind m ih =>
    intro s hW
    refine codeAny_builtin F.entry_any_loop ?_
    rw [Around.under_plainId F.plain_any_loop _]
    show wpAny _ A.in1 (pyNext (.ref I) >>= _) _ _ s
    refine wpAny_bind (wpAny_mono (step m s hW) (fun r s' h => ?_) fun _ _ e => e)
    cases r with
    | none => exact wpAny_bind (wpAny_rule (wpAny_pure h))
    | some v =>
      obtain ⟨b, rfl, h⟩ := h
      refine wpAny_bind (wpAny_holding (wpAny_truthy_bool ?_))
      refine wpAny_bind (wpAny_letGo ?_)
      cases b with
      | true =>
        simp only [if_true] at h ⊢
        exact wpAny_bind (wpAny_rule (wpAny_pure h))
      | false =>
        simp only [Bool.false_eq_true, if_false] at h ⊢
        obtain ⟨m', hm, hW'⟩ := h
        exact wpAny_pure ⟨plainId_quiet F.plain_any_loop _, ih m' hm s' hW'⟩
end
/-! ### the generator's side -/
/-- while the generator sleeps: the heap stands, the table of generators stays bare -/
structure Sl (s s' : Shared) : Prop where
  os : s'.os = s.os
  bare : AllBare s'.gens
  heap : s'.heap = s.heap
/-- a value is handed out: C of it; then on, if it is one that lets the consumer go on -/
def Yx (Sr : Value → Shared → Shared → Prop) (C : Shared → Value → Shared → Prop) (Go : Value → Prop) : Protocol := fun _ s₀ v s kap => C s₀ v s ∧ (Go v → ∀ s', Sr v s s' → kap (.send .none) s')
def Rx (Dn : Shared → Shared → Prop) : GenEnd := fun _ s₀ r s => r = .ok .next ∧ Dn s₀ s
section
variable {prog : Program} {w : World} {A : Around}
theorem seg_loop {elt tg iter : Expr} {ifs : List Expr} {scope : Scope} {pos : Pos} {I : Addr} {cenv : Env} {Sr : Value → Shared → Shared → Prop} {C : Shared → Value → Shared → Prop} {Go : Value → Prop} {Dn : Shared → Shared → Prop} {B : Around}
    (hB : A.over (.compLoop (.GeneratorExp elt [⟨tg, iter, ifs, 0⟩] scope pos) 0 (.ref I) .none cenv) [] = B) (hco : cenv.scope.isCoroutine = false) (W : Nat → Shared → Shared → Prop)
    (turn : ∀ m s₀ s, W m s₀ s → wpAny (model prog w) B (pyNext (.ref I)) (fun r s1 => match r with
      | none => Dn s₀ s1
      | some v => wpAny (model prog w) B (letOwnedTupleGo tg (.ref I) v) (fun _ s1' => wpAny (model prog w) B (assign tg cenv v) (fun _ s2 => wpAny (model prog w) B (forIn ifs true fun c r => if r = true then do let ok ← isTrue c cenv (eval c cenv); pure (ForInStep.yield ok) else pure (ForInStep.yield r)) (fun ok s3 =>
          if ok = true then wpAny (model prog w) B (eval elt cenv) (fun y s4 => C s₀ y s4 ∧ (Go y → ∃ m', m' < m ∧ ∀ s', Sr y s4 s' → W m' s' s')) (fun _ _ => False) s3 else ∃ m', m' < m ∧ W m' s₀ s3) (fun _ _ => False) s2) (fun _ _ => False) s1') (fun _ _ => False) s1) (fun _ _ => False) s) :
    ∀ (m n : Nat) (s₀ s : Shared), m < n → W m s₀ s → Seg (model prog w) A (Rx Dn) (Yx Sr C Go) n s₀
      (.compLoop (.GeneratorExp elt [⟨tg, iter, ifs, 0⟩] scope pos) 0 (.ref I) .none cenv)
      ((model prog w).den (.compLoop (.GeneratorExp elt [⟨tg, iter, ifs, 0⟩] scope pos) 0 (.ref I) .none cenv)) [] s := by
  subst hB
  intro m
  induction m using Nat.strongRecOn with
  | ind m ih =>
    intro n s₀ s hn hW
    show Seg _ A _ _ _ s₀ _ ((compTurn (.GeneratorExp elt [⟨tg, iter, ifs, 0⟩] scope pos) 0 (.ref I) .none cenv).onRaise (leaving cenv)) [] s
    rw [compTurn_gen, Sem.onRaise_eq_wrap]
    refine seg_bind_wrap (wpAny_standAt ?_)
    refine seg_bind_wrap (wpAny_mono (turn m s₀ s hW) (fun r s1 h => ?_) fun _ _ e => e.elim)
    cases r with
    | none => exact seg_end (.ok .next) ⟨rfl, h⟩
    | some v =>
      refine seg_bind_wrap (wpAny_mono h (fun _ s1' h => ?_) fun _ _ e => e.elim)
      refine seg_bind_wrap (wpAny_mono h (fun _ s2 h => ?_) fun _ _ e => e.elim)
      refine seg_bind_wrap (wpAny_mono h (fun ok s3 h => ?_) fun _ _ e => e.elim)
      cases ok with
      | false =>
        simp only [Bool.false_eq_true, if_false] at h ⊢
        obtain ⟨m', hm, hW'⟩ := h
        exact seg_again rfl (ih m' hm n s₀ s3 (by omega) hW')
      | true =>
        simp only [if_true] at h ⊢
        have hy : ∀ v, yieldOut cenv v = yieldValue v := fun v => by simp only [yieldOut, hco, Bool.false_eq_true, if_false]
        simp only [hy]
        rw [Sem.bind_eq_wrap', Sem.bind_eq_wrap', Sem.wrap_wrap, Sem.wrap_wrap]
        refine seg_wrap (wpAny_mono h (fun y s4 h => ?_) fun _ _ e => e.elim)
        obtain ⟨hC, hgo⟩ := h
        obtain ⟨n', rfl⟩ : ∃ n', n = n' + 1 := ⟨n - 1, by omega⟩
        refine seg_at (seg_yield rfl rfl rfl ⟨hC, fun gy s'' hs => ?_⟩)
        obtain ⟨m', hm, hW'⟩ := hgo gy
        exact seg_again rfl (ih m' hm n' s'' s'' (by omega) (hW' s'' hs))
/-- from its beginning -/
theorem seg_start {elt tg iter : Expr} {ifs : List Expr} {scope : Scope} {pos : Pos} {I : Addr} {cenv : Env} {Sr : Value → Shared → Shared → Prop} {C : Shared → Value → Shared → Prop} {Go : Value → Prop} {Dn : Shared → Shared → Prop} {n : Nat} {s₀ s : Shared}
    (self : ∀ (B : Around) (Q : Value → Shared → Prop) (E : Value → Shared → Prop), Q (.ref I) s → wpAny (model prog w) B (pyIter (.ref I)) Q E s)
    (loop : Seg (model prog w) A (Rx Dn) (Yx Sr C Go) n s₀ (.compLoop (.GeneratorExp elt [⟨tg, iter, ifs, 0⟩] scope pos) 0 (.ref I) .none cenv)
      ((model prog w).den (.compLoop (.GeneratorExp elt [⟨tg, iter, ifs, 0⟩] scope pos) 0 (.ref I) .none cenv)) [] s) :
    Seg (model prog w) A (Rx Dn) (Yx Sr C Go) n s₀ (.compStart (.GeneratorExp elt [⟨tg, iter, ifs, 0⟩] scope pos) 0 (.ref I) .none cenv)
      ((model prog w).den (.compStart (.GeneratorExp elt [⟨tg, iter, ifs, 0⟩] scope pos) 0 (.ref I) .none cenv)) [] s := by
  show Seg _ A _ _ _ s₀ _ ((compStart (.GeneratorExp elt [⟨tg, iter, ifs, 0⟩] scope pos) 0 (.ref I) .none cenv).onRaise (leaving cenv)) [] s
  unfold compStart
  rw [Sem.onRaise_eq_wrap]
  show Seg _ A _ _ _ s₀ _ ((ask >>= _).wrap _ _ _ _) [] s
  refine seg_bind_wrap (wpAny_askSetting ?_)
  split
  · exact seg_again rfl loop
  · refine seg_bind_wrap (wpAny_rule ?_)
    show Seg _ A _ _ _ s₀ _ ((standAt iter.pos >>= _).wrap _ _ _ _) [] s
    exact seg_bind_wrap (wpAny_standAt (seg_bind_wrap (self _ _ _ (seg_again rfl loop))))
end
end Gx
end PySem
/-! ### the two together: all(g), any(g), g a generator expression not yet begun -/
namespace PySem
namespace Gx
open PySem.W PySem.Calls PyProof.Rows L2 GenW
/-- the heap is extended; the table of generators stays bare -/
structure Ex (s s' : Shared) : Prop where
  os : s'.os = s.os
  bare : AllBare s'.gens
  heap : ∀ b o, s.heap.get? b = some o → s'.heap.get? b = some o
/-- the end of the generator -/
def Rg (Dn : Shared → Shared → Prop) : GenEnd := fun _ s₀ r s₁ => ((r = .ok (.ret .none) ∨ r = .ok .next) ∧ Dn s₀ s₁) ∨ ∃ e, r = .error e ∧ False
theorem seg_rg {M : Model} {A : Around} {Sr : Value → Shared → Shared → Prop} {C : Shared → Value → Shared → Prop} {Go : Value → Prop} {Dn : Shared → Shared → Prop} {n : Nat} {s₀ : Shared} {c : Code} {t : Sem PySem.Fin} {fs : List Frame} {s : Shared} (h : Seg M A (Rx Dn) (Yx Sr C Go) n s₀ c t fs s) : Seg M A (Rg Dn) (Yx Sr C Go) n s₀ c t fs s :=
  seg_imp (fun _ s₀ r s h => .inl ⟨.inr h.1, h.2⟩) (fun _ _ v s kap kap' hk h => ⟨h.1, fun gv s' hs => hk _ _ (h.2 gv s' hs)⟩) n h
section
variable {prog : Program} {w : World} {A : Around} {E : Value → Shared → Prop} {a : Addr} {g : Nat}
/-- a value that is handed out: its generator stands; what then is, if the consumer stops at it -/
def Cx (a : Addr) (g : Nat) (stop : Bool) (Q : Shared → Prop) (v : Value) (s : Shared) : Prop :=
  ∃ b, v = .bool b ∧ s.heap.IsGen a g ∧ s.heap.NoLimit ∧ AllBare s.gens ∧ (b = stop → ∀ s', Sl s s' → Q s')
def Dx (Q : Shared → Prop) (s : Shared) : Prop := AllBare s.gens ∧ ∀ s', Ex s s' → Q s'
/-- the generator sleeps, m items at most are left -/
def Wx (prog : Program) (w : World) (A : Around) (a : Addr) (g : Nat) (stop : Bool) (C : Value → Shared → Prop) (Dn : Shared → Prop) (m : Nat) (s : Shared) : Prop :=
  s.heap.IsGen a g ∧ s.heap.NoLimit ∧ AllBare s.gens ∧ ∃ gs, s.gens[g]? = some gs ∧ gs.Goes (model prog w) A (Rg fun _ => Dn) (Yx (fun _ => Sl) (fun _ => C) fun v => v = .bool (!stop)) m (.send .none) (s.setGen g .running)
theorem next_x {stop : Bool} {Q1 Q2 : Shared → Prop} {R : Option Value → Shared → Prop} {m : Nat} {s : Shared} (hh : A.handled = none) (hd : A.depth < recursionLimit)
    (hW : Wx prog w A.in1 a g stop (Cx a g stop Q1) (Dx Q2) m s)
    (hnone : ∀ s', Q2 s' → R none s')
    (hstop : ∀ s', Q1 s' → R (some (.bool stop)) s')
    (hgo : ∀ s' m', m' < m → Wx prog w A.in1 a g stop (Cx a g stop Q1) (Dx Q2) m' s' → R (some (.bool (!stop))) s') :
    wpAny (model prog w) A (pyNext (.ref a)) R E s := by
  obtain ⟨hg, hl, hb, gs, hgs, hgoes⟩ := hW
  have hgl : g < s.gens.size := (Array.getElem?_eq_some_iff.mp hgs).1
  refine wpAny_gsz (n := g + 1) hgl (next_genG (F := fun _ _ s₁ => Dx Q2 s₁) (Er := fun _ _ => False) hh hl hd hg hgs hgoes (fun v s₁ gs' hbare hv => ?_) (fun s₁ hp h' hk => ?_) fun e s₁ he => he.elim)
  · intro hsz
    obtain ⟨⟨b, rfl, hg1, hl1, hb1, hs1⟩, hk⟩ := hv
    have hsz1 : g < s₁.gens.size := by
      have q : (s₁.setGen g gs').gens.size = s₁.gens.size := setGen_size _ _ _
      have hsz' : g + 1 ≤ (s₁.setGen g gs').gens.size := hsz
      omega
    by_cases e : b = stop
    · subst e
      exact hstop _ (hs1 rfl _ ⟨rfl, allBare_setGen hb1 hbare, rfl⟩)
    · have e2 : b = !stop := by cases b <;> cases stop <;> first | rfl | exact absurd rfl e
      subst e2
      cases m with
      | zero => exact (hk rfl s₁ ⟨rfl, hb1, rfl⟩).elim
      | succ k => exact hgo _ k (Nat.lt_succ_self k) ⟨hg1, hl1, allBare_setGen hb1 hbare, gs', setGen_at hsz1, hk rfl _ ⟨rfl, allBare_setGen (s := s₁.setGen g gs') (allBare_setGen hb1 hbare) rfl, rfl⟩⟩
  · intro hsz
    exact hnone _ (hp.2 _ ⟨rfl, allBare_setGen hp.1 rfl, hk⟩)
theorem call_all_gen {Q : Value → Shared → Prop} {m : Nat} {s : Shared} (hh : A.handled = none) (hd : A.depth + 1 < recursionLimit)
    (hW : Wx prog w A.in1.in1 a g false (Cx a g false fun s' => Q (.bool false) s') (Dx fun s' => Q (.bool true) s') m s) :
    wpAny (model prog w) A (call (.builtin "all") [.ref a]) Q E s := by
  refine call_function_tree F.kind_all F.plain_all F.entry_all (F.args_all1 _) ?_
  unfold Builtin.«all»
  refine wpAny_bind (m := oneArg "all" _) (wpAny_pure ?_)
  refine wpAny_bind (wpAny_pyIter_gen hW.1 ?_)
  refine wpAny_pure ⟨plainId_quiet F.plain_all_loop _, ?_⟩
  refine all_loop (A := A) (fun m s => Wx prog w A.in1.in1 a g false (Cx a g false fun s' => Q (.bool false) s') (Dx fun s' => Q (.bool true) s') m s) (fun m s h => ?_) m s hW
  exact next_x (A := A.in1) hh (by show A.depth < _; omega) h (fun s' q => q) (fun s' q => ⟨false, rfl, q⟩) fun s' m' hm h' => ⟨true, rfl, m', hm, h'⟩
theorem call_any_gen {Q : Value → Shared → Prop} {m : Nat} {s : Shared} (hh : A.handled = none) (hd : A.depth + 1 < recursionLimit)
    (hW : Wx prog w A.in1.in1 a g true (Cx a g true fun s' => Q (.bool true) s') (Dx fun s' => Q (.bool false) s') m s) :
    wpAny (model prog w) A (call (.builtin "any") [.ref a]) Q E s := by
  refine call_function_tree F.kind_any F.plain_any F.entry_any (F.args_any1 _) ?_
  unfold Builtin.«any»
  refine wpAny_bind (m := oneArg "any" _) (wpAny_pure ?_)
  refine wpAny_bind (wpAny_pyIter_gen hW.1 ?_)
  refine wpAny_pure ⟨plainId_quiet F.plain_any_loop _, ?_⟩
  refine any_loop (A := A) (fun m s => Wx prog w A.in1.in1 a g true (Cx a g true fun s' => Q (.bool true) s') (Dx fun s' => Q (.bool false) s') m s) (fun m s h => ?_) m s hW
  exact next_x (A := A.in1) hh (by show A.depth < _; omega) h (fun s' q => q) (fun s' q => ⟨true, rfl, q⟩) fun s' m' hm h' => ⟨false, rfl, m', hm, h'⟩
end
end Gx
end PySem
/-! ### a generator expression is made -/
namespace PySem
namespace Gx
open PySem.W PySem.Calls PyProof.Rows L2 GenW
section
variable {X : L2.Cx} {pins : List (Addr × Obj)} {σ : L2.St} {H : Hp} {s : Shared}
theorem gen_make {c P : Addr} {elt tg iter : Expr} {ifs : List Expr} {x : Str} {gpos : Pos} {scope : Scope} {wi : TI} {k : Nat} {Q' : Value → Shared → Prop} {R : It → Hp → Prop}
    (hr : Room k X.A) (TB : GxR.TabB X.base X.mg c P) (hcode : X.env.code = .ref c) (S : GxR.GenS X.env scope x) (hi : PI X tg iter wi) (hs : ∀ v, genFold iter X.env v = pure v)
    (I : Inv X pins σ H s) (h : wi σ H fun J H1 => GxR.TabG H1 P ∧ R J H1)
    (hQ : ∀ (it : Addr) (fp : List Addr) (tn : Nat → Heap → Prop) (J : It) (H1 H2 : Hp) (code : Value) (C a : Addr) (g : Nat) (s4 s5 : Shared), R J H1 → GxR.Tabbed P H1 H2 → Inv X pins σ H2 s4 → s4.heap.objs.size = C → (∀ b o, s4.heap.get? b = some o → s5.heap.get? b = some o) → s5.os = s4.os → tn 0 s4.heap → Inv X pins σ H2 s5 → Turn X.prog X.w X.K tg J fp it tn → tn 0 s5.heap → (∀ b ∈ fp, FpOk X pins H2 b) →
      s5.heap.Ns C (fun y => if y = ".0" then some (.ref it) else none) → FpOk X pins H2 C → C ∉ fp → s5.heap.IsGen a g → FpOk X pins H2 a → a ∉ fp → a ≠ C →
      s5.gens[g]? = some (.fresh (.compStart (.GeneratorExp elt [⟨tg, iter, ifs, 0⟩] scope gpos) 0 (.ref it) .none (genEnv scope (cloFrom X.env.cells scope.names []) C code builtinsNs X.env))) → Q' (.ref a) s5) :
    wpAny (model X.prog X.w) X.A (eval (.GeneratorExp elt [⟨tg, iter, ifs, 0⟩] scope gpos) X.env) Q' X.xe s := by
  refine wpAny_GeneratorExp_make S.co (closure_ok S.free) S.cell S.dot S.kind (by have := hr.dp; omega) ?_ hs
  refine thn (hi.run pins s σ H _ I h) fun xv s1 h1 => thn h1 fun itv s2 h2 => ?_
  obtain ⟨it, fp, tn, J, H1, rfl, I2, T, st2, f2, ⟨ps, hP, ht⟩, q⟩ := h2
  have hPs : s2.heap.get? P = some { cls := .none, data := .fields ps } := I2.hok P _ hP
  have hPlt : P < s2.heap.objs.size := Heap.lt_size hPs
  have cd : PySem.W.CodeHd s2.heap c P := TB.code.keeps fun b u e => I2.bk b u e
  have cont : ∀ (code : Value) (h3 : Heap) (tk : Nat) (ps' : Array Value), Heap.ExtBut P s2.heap h3 → s2.heap.objs.size ≤ h3.objs.size → h3.get? P = some { cls := .none, data := .fields ps' } → (∃ more, ps' = ps ++ more) → TriplesOk ps'.toList →
      wpAny (model X.prog X.w) X.A (builtinsFor X.env.globals X.env.builtins) (fun bi s₄ =>
        ∀ h', h'.Ns s₄.heap.objs.size (fun y => if y = ".0" then some (.ref it) else none) → Heap.SameBut s₄.heap.objs.size (s₄.heap.push { cls := .type "frame", data := .dict #[] }) h' →
          Q' (.ref h'.objs.size) { s₄ with
            gens := s₄.gens.push (.fresh (.compStart (.GeneratorExp elt [⟨tg, iter, ifs, 0⟩] scope gpos) 0 (.ref it) .none (genEnv scope (cloFrom X.env.cells scope.names []) s₄.heap.objs.size code bi X.env))),
            toks := s₄.toks + 1 + 1 + 1,
            heap := h'.push { cls := .type "generator", data := .fields #[.int s₄.gens.size 0, .str "<genexpr>" (s₄.toks + 1), .str (X.env.qual ++ "<genexpr>") (s₄.toks + 1 + 1)] } }) X.xe { s2 with heap := h3, toks := tk } := by
    intro code h3 tk ps' hx hsz hP3 hmore ht3
    obtain ⟨bm, ob, e1, e2, e3, e4, e5, e6, e7, e8⟩ := TB.bm
    refine wpAny_builtinsFor (m := X.mg) (by rw [I2.ok.glob]; exact (I2.mod.glob.keeps I2.bk).extBut hx TB.gP) e1 e2 (hx _ _ e4 (I2.bk _ _ e5)) e6 e7 e8 ?_
    intro h' hn' hs'
    have hsz' : h'.objs.size = h3.objs.size + 1 := by rw [hs'.1, Heap.size_push]
    have keep' : ∀ b o, h3.get? b = some o → h'.get? b = some o := fun b o e => hs'.extBut b o (Nat.ne_of_lt (Heap.lt_size e)) (Heap.get?_push_of_some _ e)
    have keep5 : ∀ b o, b ≠ P → s2.heap.get? b = some o → (h'.push { cls := .type "generator", data := .fields #[.int s2.gens.size 0, .str "<genexpr>" (tk + 1), .str (X.env.qual ++ "<genexpr>") (tk + 1 + 1)] }).get? b = some o :=
      fun b o hb e => Heap.get?_push_of_some _ (keep' b o (hx b o hb e))
    obtain ⟨more, em⟩ := hmore
    have nfP : ∀ b ∈ fp, b ≠ P := fun b hb e => by
      have := (f2 b hb).1
      rw [e, hP] at this
      cases this
    have fok : ∀ b, FpOk X pins H1 b → FpOk X pins (upd H1 P (.tbl (ps ++ more))) b := fun b hb => by
      have nb : b ≠ P := fun e => by
        have := hb.1
        rw [e, hP] at this
        cases this
      exact ⟨by rw [upd_ne nb]; exact hb.1, hb.2⟩
    have hCf : (h3.objs.size : Nat) ∉ fp := fun hb => by
      obtain ⟨o, ho, _⟩ := T.obj _ _ st2 _ hb
      exact absurd (Nat.lt_of_lt_of_le (Heap.lt_size ho) hsz) (Nat.lt_irrefl _)
    have hge : s2.heap.objs.size ≤ h'.objs.size := by rw [hsz']; exact Nat.le_succ_of_le hsz
    have haf : (h'.objs.size : Nat) ∉ fp := fun hb => by
      obtain ⟨o, ho, _⟩ := T.obj _ _ st2 _ hb
      exact absurd (Nat.lt_of_lt_of_le (Heap.lt_size ho) hge) (Nat.lt_irrefl _)
    have J5 := GxR.inv_tab (more := more) (h' := h'.push { cls := .type "generator", data := .fields #[.int s2.gens.size 0, .str "<genexpr>" (tk + 1), .str (X.env.qual ++ "<genexpr>") (tk + 1 + 1)] })
      (g' := s2.gens.push (.fresh (.compStart (.GeneratorExp elt [⟨tg, iter, ifs, 0⟩] scope gpos) 0 (.ref it) .none (genEnv scope (cloFrom X.env.cells scope.names []) h3.objs.size code builtinsNs X.env)))) (d' := s2.drawn) (t' := tk + 1 + 1 + 1)
      I2 hP keep5 (by rw [← em]; exact Heap.get?_push_of_some _ (keep' P _ hP3)) (I2.bare.push rfl)
    have J4 := GxR.inv_tab (more := more) (h' := h3) (g' := s2.gens) (d' := s2.drawn) (t' := tk) I2 hP (fun b o hb e => hx b o hb e) (by rw [← em]; exact hP3) I2.bare
    refine hQ it fp tn J H1 (upd H1 P (.tbl (ps ++ more))) code h3.objs.size h'.objs.size s2.gens.size _ _ q ⟨⟨ps ++ more, upd_same, by rw [← em]; exact ht3⟩, fun b hb => upd_ne hb⟩ J4 rfl (fun b o e => Heap.get?_push_of_some _ (keep' b o e)) rfl (T.keep _ _ _ st2 fun b hb o e => hx b o (nfP b hb) e) J5 T
      (T.keep _ _ _ st2 fun b hb o e => keep5 b o (nfP b hb) e) (fun b hb => fok b (f2 b hb)) (hn'.push _) (fok _ (I2.fpOk hsz (I2.hok.fresh hsz))) hCf ⟨_, _, _, Heap.get?_push_size _ rfl, rfl, rfl, rfl⟩
      (fok _ (I2.fpOk hge (I2.hok.fresh hge))) haf (by rw [hsz']; exact Nat.succ_ne_self _) (Array.getElem?_push_size ..)
  refine ⟨I2.nolimit, ?_⟩
  cases hf : codeAmong gpos ps.toList with
  | none =>
    refine wpAny_genexprCodeX hcode (cd.code hPs ht) (cd.tab hPs) hf fun c' h' tk hx hge hlt hco' _ htab' _ => ?_
    obtain ⟨o1, vs, f1, tf, fl, tg', inF, tx, tt, op, _, _, _, _, _, _, _, _, _, htr, _⟩ := hco'
    exact cont _ h' tk _ hx (Nat.le_trans hge (Nat.le_of_lt hlt)) htab'.2 ⟨_, rfl⟩ htr
  | some cv =>
    refine wpAny_genexprCode_hit hcode (cd.code hPs ht) hf ?_
    exact cont cv s2.heap s2.toks ps (Heap.ExtBut.refl _ _) (Nat.le_refl _) hPs ⟨#[], by simp⟩ ht
end
end Gx
end PySem
/-! ### the frame of the expression, as a context -/
namespace PySem
namespace Gx
open PySem.W PySem.Calls PyProof.Rows L2 GenW
abbrev gcx (X : L2.Cx) (B : Around) (s : Shared) (H : Hp) (env : Env) (fp : List Addr) (pn : List (Addr × Obj)) : L2.Cx :=
  { X with A := B, s_0 := s, H_0 := H, env := env, outer := X.stack, stack := env :: X.stack, ex := fp, fn := fun _ => false, pn := pn, xe := fun _ _ => False }
section
variable {X : L2.Cx} {pins : List (Addr × Obj)} {σ : L2.St} {H : Hp} {s4 s5 : Shared}
/-- s4: ahead of the frame; s5: the generator stands -/
theorem gx_start {B : Around} {scope : Scope} {own : List (Str × Nat)} {fp : List Addr} {pn : List (Addr × Obj)} {code it : Value} (I4 : Inv X pins σ H s4) (I5 : Inv X pins σ H s5) (ok : BlkOk X.N X.env.scope scope own) (hN : X.N.Nodup)
    (hcell : ∀ y ∈ scope.names, y.2 ≠ .cell) (hX : X.calm = true) (hB : B.handled = none) (hBf : B.frames = some (genEnv scope (cloFrom X.env.cells scope.names []) s4.heap.objs.size code builtinsNs X.env :: X.stack))
    (hfp : ∀ b ∈ fp, FpOk X pins H b ∧ b ≠ s4.heap.objs.size) (keep : ∀ b o, s4.heap.get? b = some o → s5.heap.get? b = some o) (os : s5.os = s4.os)
    (hns : s5.heap.Ns s4.heap.objs.size (fun y => if y = ".0" then some it else none)) (hpn : ∀ p ∈ pn, s5.heap.get? p.1 = some p.2 ∧ H p.1 = none ∧ p.1 ≠ s4.heap.objs.size ∧ p.1 ∉ frs X.stack ∧ ∀ v, p.2.data ≠ .cell v) :
    Inv (gcx X B s4 H (genEnv scope (cloFrom X.env.cells scope.names []) s4.heap.objs.size code builtinsNs X.env) fp pn) [] (wipe σ (own.map (·.2))) H s5 := by
  have hfree : ∀ y ∈ scope.names, y.2 = .free → ∃ c, X.env.cells.lookup y.1 = some c := fun y hy e => by
    rcases ok.free y hy e with k | k
    · exact I4.ok.has _ (.inl k)
    · exact I4.ok.has _ (.inr k)
  have cm : ∀ {y c}, (y, c) ∈ cloFrom X.env.cells scope.names [] → X.env.cells.lookup y = some c ∧ c < s4.heap.objs.size := fun {y c} hm => by
    rcases cloFrom_mem hm with hm | ⟨h1, rfl⟩
    · cases hm
    · obtain ⟨c, hc⟩ := hfree _ h1 rfl
      rw [hc]
      obtain ⟨w, z⟩ := I4.cell _ _ hc
      exact ⟨rfl, z.lt⟩
  have mem : ∀ {y c}, (cloFrom X.env.cells scope.names []).lookup y = some c → X.env.cells.lookup y = some c ∧ c < s4.heap.objs.size := fun {y c} e => cm (PySem.mem_of_lookup e)
  have look : ∀ {y}, scope.names.lookup y = some .free → ∃ c, (cloFrom X.env.cells scope.names []).lookup y = some c ∧ X.env.cells.lookup y = some c := fun {y} hl => by
    have hy : (y, NameKind.free) ∈ scope.names := PySem.mem_of_lookup hl
    obtain ⟨c', e'⟩ := mem_lookup (cloFrom_has (cells := X.env.cells) (acc := []) hy)
    exact ⟨c', e', (mem e').1⟩
  have okB : (gcx X B s4 H (genEnv scope (cloFrom X.env.cells scope.names []) s4.heap.objs.size code builtinsNs X.env) fp pn).Ok := by
    refine ⟨I4.ok.mod, ok.kind, I4.ok.glob, rfl, Nat.le_refl _, fun y z c e1 e2 => I4.ok.inj y z c (mem e1).1 (mem e2).1, fun y hy => ?_, (fun y c z e => by cases z), fun _ => hB, hBf, .inr ⟨rfl, rfl⟩,
      fun b hb => ⟨(hfp b hb).2, fun y c e z => (hfp b hb).1.2.2.2.2.1 y c (mem e).1 z⟩, I4.bs, Nat.le_trans I4.ok.bsz I4.sz, fun b o e hb => ?_, fun b hb z => ?_, I4.stack, I4.stkFree⟩
    · rcases hy with hy | hy
      · exact absurd rfl (hcell _ (PySem.mem_of_lookup hy))
      · obtain ⟨c, h1, _⟩ := look hy
        exact ⟨c, h1⟩
    · rcases (hfp b hb).1.2.2.2.1 with z | z
      · exact I4.ok.noex b o e z
      · exact absurd (Nat.lt_of_lt_of_le (Heap.lt_size e) (Nat.le_trans I4.ok.bsz z)) (Nat.lt_irrefl _)
    · rcases List.mem_cons.mp (I4.stkSub b z) with z | z
      · exact (hfp b hb).1.2.1 z
      · exact (hfp b hb).1.2.2.1 z
  refine ⟨okB, os, I5.bare, Un.kept keep, ⟨_, hns, fun i y av e1 e2 e3 => ?_⟩, fun y c e => ?_, I4.hok.fresh (Nat.le_refl _), fun y c e => I4.freeC y c (mem e).1, fun p hp => ?_, I5.hok, by rw [wipe_length]; exact I4.len⟩
  · obtain ⟨e2, hne⟩ := wipe_some e2
    have hfr : scope.names.lookup y = some .free := by
      have no : ∀ k, scope.names.lookup y = some k → ¬ (k = .local ∨ k = .cell) := fun k hk hh => by
        rcases ok.own _ (PySem.mem_of_lookup hk) hh with e' | e'
        · obtain ⟨p, hp, hpy⟩ := List.mem_map.mp e'
          have e3 := ok.ix p hp
          have : p.1 = y := hpy
          rw [this] at e3
          exact hne (List.mem_map.mpr ⟨p, hp, nodup_ix hN e3 e1⟩)
        · exact e' (List.mem_of_getElem? e1)
      rcases e3 with e3 | e3 | e3
      · exact absurd (.inl rfl) (no _ e3)
      · exact absurd (.inr rfl) (no _ e3)
      · exact e3
    obtain ⟨m, hn, hl⟩ := I4.loc
    have hvis : Vis X.env.scope y := (ok.free _ (PySem.mem_of_lookup hfr) rfl).elim (fun k => .inr (.inl k)) (fun k => .inr (.inr k))
    obtain ⟨w, r, q⟩ := hl i y av e1 e2 hvis
    refine ⟨w, r, .inr ⟨.inr hfr, ?_⟩⟩
    obtain ⟨c, h1, h2⟩ := look hfr
    rcases q with ⟨k, _⟩ | ⟨_, c', e', z⟩
    · have k : X.env.scope.names.lookup y = some .local := k
      rcases ok.free _ (PySem.mem_of_lookup hfr) rfl with k' | k' <;> rw [show X.env.scope.names.lookup y = _ from k'] at k <;> cases k
    · rw [h2] at e'; cases e'
      exact ⟨c, h1, z.keeps keep⟩
  · obtain ⟨w, z⟩ := I4.cell y c (mem e).1
    exact ⟨w, z.keeps keep⟩
  · have hp : p ∈ pn := by simpa using hp
    exact hpn p hp
/-- the frame's around: the one of the caller, that frame on it -/
theorem gx_frames {A : Around} {elt iter tg : Expr} {ifs : List Expr} {scope : Scope} {pos : Pos} {it : Value} {env : Env} {l : List Env} (hf : env.frame = some env.locals) (h : A.frames = some l) :
    (A.over (.compLoop (.GeneratorExp elt [⟨tg, iter, ifs, 0⟩] scope pos) 0 it .none env) []).frames = some (env :: l) := by
  obtain ⟨hd, d, fr, gs, u⟩ := A
  have h : fr = some l := h
  subst h
  simp [Around.over, envsOf, pushEnvs, Code.envs, Code.env?, Code.isFrame]
end
end Gx
end PySem
/-! ### the rule -/
namespace PySem
namespace Gx
open PySem.W PySem.Calls PyProof.Rows L2 GenW
/-- all(e for t in it if c) (stop = false), any(..) (stop = true): vs: the expression's own names' places, P: the table of the def's code -/
def tGen (stop : Bool) (wi : TI) (g : TG) (tt : TT) (te : TE) (vs : List Nat) (P : Addr) : TE := fun σ H Q => wi σ H fun J H1 => GxR.TabG H1 P ∧ ∀ H2, GxR.Tabbed P H1 H2 → ∃ W : Nat → Nat → Hp → Prop, (∃ m, W 0 m H2) ∧ ∀ i m H, W i m H →
  (J.stop i H ∧ Q (.bl (!stop)) H) ∨ (J.go i H ∧ ∃ Nx : Hp → Prop, (∀ H', Nx H' → ∃ m', m' < m ∧ W (i + 1) m' H') ∧ ∀ x H', J.yld i H x H' → g x (wipe σ vs) H' fun σ2 H2 => wipe σ2 vs = wipe σ vs ∧ tt σ2 H2 fun b H3 =>
    if b = true then te σ2 H3 fun y H4 => ∃ c, y = .bl c ∧ if c = stop then Q (.bl stop) H4 else Nx H4 else Nx H3)
section
variable {X : L2.Cx} {pins : List (Addr × Obj)} {σ : L2.St} {H : Hp} {s : Shared}
theorem inv_sl {Y : L2.Cx} {pins : List (Addr × Obj)} {σ : L2.St} {H : Hp} {s s' : Shared} (I : Inv Y pins σ H s) (h : Sl s s') : Inv Y pins σ H s' :=
  I.call' (ch := []) h.os (Un.kept fun b o e => by rw [h.heap]; exact e) (I.hok.kept fun b o e => by rw [h.heap]; exact e) h.bare fun b hb => absurd hb (by simp)
/-- back in the caller's frame -/
theorem gx_back {B : Around} {s4 s1 s' : Shared} {H2 H' : Hp} {env : Env} {fp : List Addr} {pn ps : List (Addr × Obj)} {σ' : L2.St} (I4 : Inv X pins σ H2 s4) (hfp : ∀ b ∈ fp, FpOk X pins H2 b) (Ig : Inv (gcx X B s4 H2 env fp pn) ps σ' H' s1) (e : Ex s1 s') : Inv X pins σ H' s' :=
  I4.call' (ch := fp) (e.os.trans Ig.os) (Ig.base.trans (Un.kept e.heap)) (Ig.hok.kept e.heap) e.bare fun b hb => ⟨(hfp b hb).2.2.2.1, (hfp b hb).2.1, (hfp b hb).2.2.2.2.1, (hfp b hb).2.2.2.2.2⟩
theorem pe_gen (stop : Bool) {c P : Addr} {elt tg iter : Expr} {ifs : List Expr} {x : Str} {f : String} {p pos gpos : Pos} {scope : Scope} {own : List (Str × Nat)} {wi : TI} {g : TG} {tt : TT} {te : TE} {k : Nat} (hf : f = if stop = true then "any" else "all")
    (hr : Room (k + 3) X.A) (hc : X.calm = true) (hN : X.N.Nodup) (hg : Gl X f) (hm : X.mg f = none) (TB : GxR.TabB X.base X.mg c P) (hcode : X.env.code = .ref c) (S : GxR.GenS X.env scope x) (ok : BlkOk X.N X.env.scope scope own)
    (hi : PI X tg iter wi)
    (ht : ∀ (B : Around) (s : Shared) (H : Hp) (C : Addr) (code : Value) (fp : List Addr) (pn : List (Addr × Obj)), Room k B → PG (gcx X B s H (genEnv scope (cloFrom X.env.cells scope.names []) C code builtinsNs X.env) fp pn) tg g)
    (hts : ∀ (B : Around) (s : Shared) (H : Hp) (C : Addr) (code : Value) (fp : List Addr) (pn : List (Addr × Obj)), Room k B → PTs (gcx X B s H (genEnv scope (cloFrom X.env.cells scope.names []) C code builtinsNs X.env) fp pn) ifs tt)
    (hel : ∀ (B : Around) (s : Shared) (H : Hp) (C : Addr) (code : Value) (fp : List Addr) (pn : List (Addr × Obj)), Room k B → PE (gcx X B s H (genEnv scope (cloFrom X.env.cells scope.names []) C code builtinsNs X.env) fp pn) elt te)
    (hs : ∀ v, genFold iter X.env v = pure v)
    (he : starEach [.GeneratorExp elt [⟨tg, iter, ifs, 0⟩] scope gpos] X.env = (false, eval (.GeneratorExp elt [⟨tg, iter, ifs, 0⟩] scope gpos) X.env) :: starEach [] X.env := by rfl) :
    PE X (.Call (.Name f p) [.GeneratorExp elt [⟨tg, iter, ifs, 0⟩] scope gpos] [] pos) (tGen stop wi g tt te (own.map (·.2)) P) := by
  refine ⟨fun pins s σ H Q I h => ?_⟩
  have hstk := I.ok.frames
  have fin : ∀ (a : Addr) (g : Nat) (m : Nat) (s5 : Shared), Wx X.prog X.w X.A.in1.in1 a g stop (Cx a g stop fun s' => ∃ v H', Inv X pins σ H' s' ∧ RelV v (.bool stop) ∧ Q v H') (Dx fun s' => ∃ v H', Inv X pins σ H' s' ∧ RelV v (.bool !stop) ∧ Q v H') m s5 →
      wpAny (model X.prog X.w) X.A (call (.builtin f) [.ref a]) (fun u s' => ∃ v H', Inv X pins σ H' s' ∧ RelV v u ∧ Q v H') X.xe s5 := by
    intro a g m s5 hW
    subst hf
    cases stop with
    | false => exact call_all_gen (Q := fun u s' => ∃ v H', Inv X pins σ H' s' ∧ RelV v u ∧ Q v H') hr.hd (by have := hr.dp; omega) hW
    | true => exact call_any_gen (Q := fun u s' => ∃ v H', Inv X pins σ H' s' ∧ RelV v u ∧ Q v H') hr.hd (by have := hr.dp; omega) hW
  have hb : bootBuiltins f = some (.builtin f) := by subst hf; cases stop <;> decide +kernel
  refine wpAny_Call_Name_kw (ld_blt I hg hm hb ?_ (by subst hf; cases stop <;> decide) (by subst hf; cases stop <;> decide))
  refine PyProof.Rows.callWith_builtin1 ?_ he (by rfl)
  rw [he]
  show wpAny _ _ (spliced ((false, eval (.GeneratorExp elt [⟨tg, iter, ifs, 0⟩] scope gpos) X.env) :: backTo pos (starEach [] X.env))) _ _ s
  refine Calls.spliced_cons (gen_make hr TB hcode S hi hs I h fun it fp tn J H1 H2 code C a gi s4 s5 q tab I4 hC keep os st4 I5 T st5 f2 hns fC hCf hgen fa haf haC hgs => ?_)
  refine Calls.spliced_nil ?_
  obtain ⟨W, ⟨m0, w0⟩, turn⟩ := q H2 tab
  subst hC
  have lt4 : ∀ b ∈ fp, b < s4.heap.objs.size := fun b hb => by
    obtain ⟨o, ho, _⟩ := T.obj _ _ st4 b hb
    exact Heap.lt_size ho
  obtain ⟨ga, gnm, gqn, gho, gr⟩ := id hgen
  obtain ⟨gcl, gdt, gsl⟩ := gr
  have bh : ∀ {c : Code}, (X.A.in1.in1.over c []).handled = none := fun {c} => hr.hd
  have rb : Room k (X.A.in1.in1.over (.compLoop (.GeneratorExp elt [⟨tg, iter, ifs, 0⟩] scope gpos) 0 (.ref it) .none (genEnv scope (cloFrom X.env.cells scope.names []) s4.heap.objs.size code builtinsNs X.env)) []) := ⟨hr.hd, by
    have := hr.dp
    show X.A.depth + 1 + 3 * k + 5 < recursionLimit
    omega, by
    have := hr.un
    show X.A.units + 5 + 16 * k + 200 < cLine
    omega⟩
  have I6 := gx_start (code := code) (it := .ref it) (own := own) (pn := [(a, ga)]) I4 I5 ok hN S.cell hc (B := X.A.in1.in1.over (.compLoop (.GeneratorExp elt [⟨tg, iter, ifs, 0⟩] scope gpos) 0 (.ref it) .none (genEnv scope (cloFrom X.env.cells scope.names []) s4.heap.objs.size code builtinsNs X.env)) [])
    hr.hd (gx_frames rfl hstk) (fun b hb => ⟨f2 b hb, Nat.ne_of_lt (lt4 b hb)⟩) keep os hns (fun p hp => by
      rw [List.mem_singleton.mp hp]
      refine ⟨gho, fa.1, haC, fun z => ?_, fun v z => ?_⟩
      · rcases List.mem_cons.mp (I4.stkSub a z) with z | z
        · exact fa.2.1 z
        · exact fa.2.2.1 z
      · rw [gdt] at z; cases z)
  refine fin a gi (m0 + 1) s5 ⟨hgen, I5.nolimit, I5.bare, _, hgs, rfl, seg_rg (seg_start (fun B Q E hq => T.self B 0 _ Q E st5 hq) (seg_loop rfl S.co
    (fun m _ s => ∃ i H', Inv (gcx X (X.A.in1.in1.over (.compLoop (.GeneratorExp elt [⟨tg, iter, ifs, 0⟩] scope gpos) 0 (.ref it) .none (genEnv scope (cloFrom X.env.cells scope.names []) s4.heap.objs.size code builtinsNs X.env)) []) s4 H2 (genEnv scope (cloFrom X.env.cells scope.names []) s4.heap.objs.size code builtinsNs X.env) fp [(a, ga)]) [] (wipe σ (own.map (·.2))) H' s ∧
      tn i s.heap ∧ (∀ b ∈ fp, H' b = none) ∧ W i m H') ?_ m0 (m0 + 1) _ _ (Nat.lt_succ_self _) ⟨0, H2, ?_, st5, fun b hb => (f2 b hb).1, w0⟩))⟩
  · generalize hBB : X.A.in1.in1.over (.compLoop (.GeneratorExp elt [⟨tg, iter, ifs, 0⟩] scope gpos) 0 (.ref it) .none (genEnv scope (cloFrom X.env.cells scope.names []) s4.heap.objs.size code builtinsNs X.env)) [] = B at rb ⊢
    have pg := ht B s4 H2 s4.heap.objs.size code fp [(a, ga)] rb
    have pt := hts B s4 H2 s4.heap.objs.size code fp [(a, ga)] rb
    have pe := hel B s4 H2 s4.heap.objs.size code fp [(a, ga)] rb
    have stat : ∀ {σ' : L2.St} {H' : Hp} {s' : Shared}, Inv (gcx X B s4 H2 (genEnv scope (cloFrom X.env.cells scope.names []) s4.heap.objs.size code builtinsNs X.env) fp [(a, ga)]) [] σ' H' s' → (∀ b ∈ fp, H' b = none) → ∀ b ∈ fp, FpOk (gcx X B s4 H2 (genEnv scope (cloFrom X.env.cells scope.names []) s4.heap.objs.size code builtinsNs X.env) fp [(a, ga)]) [] H' b := fun {σ' H' s'} I' hn b hb =>
      ⟨hn b hb, (I'.ok.exf b hb).1, I'.ok.exfs b hb, .inl hb, fun x c e => (I'.ok.exf b hb).2 x c e, fun p hp => by
        have hp : p ∈ [(a, ga)] ++ [] := hp
        rw [List.append_nil, List.mem_singleton] at hp
        rw [hp]
        exact fun z => haf (by rw [show a = b from z]; exact hb)⟩
    rintro m _ s5' ⟨i, H5, I5', st5', n5, w5⟩
    rcases turn i m H5 w5 with ⟨stop_, qq⟩ | ⟨go, Nx, hNx, step⟩
    · refine thnF (T.done (gcx X B s4 H2 (genEnv scope (cloFrom X.env.cells scope.names []) s4.heap.objs.size code builtinsNs X.env) fp [(a, ga)]) rfl rfl rfl hc i [] s5' _ H5 (fun _ _ => False) I5' (stat I5' n5) st5' stop_) fun r s6 ⟨hr6, I6⟩ => ?_
      subst hr6
      exact ⟨I6.bare, fun s' ex => ⟨.bl (!stop), H5, gx_back I4 f2 I6 ex, rfl, qq⟩⟩
    · refine thnF (T.item (gcx X B s4 H2 (genEnv scope (cloFrom X.env.cells scope.names []) s4.heap.objs.size code builtinsNs X.env) fp [(a, ga)]) rfl rfl rfl hc i [] s5' _ H5 (fun _ _ => False) I5' (stat I5' n5) st5' go) fun r s6 ⟨u, hr6, h6⟩ => ?_
      subst hr6
      refine thnF h6 fun _ s7 ⟨x, H7, I7, r7, y7, st7, n7⟩ => ?_
      have I7' := I7.pinned (stat I7 n7) (T.obj _ _ st7)
      refine thnF (pg.run _ s7 _ H7 x u _ I7' r7 (step x H7 y7)) fun _ s8 ⟨σ8, H8, I8, hw8, q8⟩ => ?_
      refine thnF (pt.run _ s8 σ8 H8 _ I8 q8) fun b s9 ⟨H9, I9, q9⟩ => ?_
      have fin2 : ∀ {s' : Shared} {H' : Hp}, Inv (gcx X B s4 H2 (genEnv scope (cloFrom X.env.cells scope.names []) s4.heap.objs.size code builtinsNs X.env) fp [(a, ga)]) ([] ++ pinsAt fp s7.heap) σ8 H' s' → Nx H' → ∃ m', m' < m ∧ ∃ i H', Inv (gcx X B s4 H2 (genEnv scope (cloFrom X.env.cells scope.names []) s4.heap.objs.size code builtinsNs X.env) fp [(a, ga)]) [] (wipe σ (own.map (·.2))) H' s' ∧ tn i s'.heap ∧ (∀ b ∈ fp, H' b = none) ∧ W i m' H' := fun {s' H'} I' nx => by
        obtain ⟨m', hm, w'⟩ := hNx H' nx
        have pin' : ∀ b ∈ fp, ∀ o, s7.heap.get? b = some o → s'.heap.get? b = some o ∧ H' b = none := fun b hb o e =>
          let z := I'.pin (b, o) (List.mem_append_right _ (List.mem_append_right _ (mem_pinsAt hb e)))
          ⟨z.1, z.2.1⟩
        have hl : (wipe σ (own.map (·.2))).length = σ8.length := by rw [← hw8, wipe_length]
        refine ⟨m', hm, i + 1, H', (I'.unpinned (pins := [])).weak hl (fun j v e => ?_), T.keep _ _ _ st7 fun b hb o e => (pin' b hb o e).1, fun b hb => ?_, w'⟩
        · rw [← hw8] at e
          exact (wipe_some e).1
        · obtain ⟨o, e, _⟩ := T.obj _ _ st7 b hb
          exact (pin' b hb o e).2
      cases b with
      | false =>
        simp only [Bool.false_eq_true, if_false] at q9 ⊢
        exact fin2 I9 q9
      | true =>
        simp only [if_true] at q9 ⊢
        refine thnF (pe.run _ s9 σ8 H9 _ I9 q9) fun z s10 ⟨yv, H10, I10, r10, b10, e10, q10⟩ => ?_
        subst e10
        have r10 : z = .bool b10 := r10
        refine ⟨⟨b10, r10, ⟨ga, gnm, gqn, (I10.pin (a, ga) (by simp)).1, gcl, gdt, gsl⟩, I10.nolimit, I10.bare, fun e s' hs' => ?_⟩, ?_⟩
        · rw [if_pos e] at q10
          exact ⟨.bl stop, H10, gx_back I4 f2 I10 ⟨hs'.os, hs'.bare, fun b o q => by rw [hs'.heap]; exact q⟩, rfl, q10⟩
        · intro gy
          rw [r10] at gy
          have gy : b10 = !stop := by injection gy
          rw [if_neg (by rw [gy]; cases stop <;> decide)] at q10
          obtain ⟨m', hm, i', H', J', rest⟩ := fin2 I10 q10
          exact ⟨m', hm, fun s' hs' => ⟨i', H', inv_sl J' hs', by rw [hs'.heap]; exact rest.1, rest.2⟩⟩
  · exact inv_sl I6 ⟨rfl, allBare_setGen I5.bare rfl, rfl⟩
end
end Gx
end PySem
/-! ### the form one uses: over any walk of the hand layer (walk_list, walk_tup, walk_range, ..) -/
namespace PySem
namespace Gx
open PySem.W PySem.Calls PyProof.Rows L2 GenW
/-- Pv: what is true ahead of each turn; an element's answer ends the walk or leads to the next turn -/
theorem gen_walk {J : It} {n : Nat} {G : Hp → Prop} {Y : Nat → Hp → V → Hp → Prop} {g : TG} {tt : TT} {te : TE} {vs : List Nat} {σ : L2.St} {Hs : Hp} {stop : Bool} {Q : VK} (w : Walk J n G Y) (Pv : Nat → Hp → Prop) (first : Pv 0 Hs) (stands : ∀ i H, Pv i H → G H)
    (turn : ∀ i x H H', i < n → Pv i H → Y i H x H' → g x (wipe σ vs) H' fun σ2 H2 => wipe σ2 vs = wipe σ vs ∧ tt σ2 H2 fun b H3 => if b = true then te σ2 H3 fun y H4 => ∃ c, y = .bl c ∧ if c = stop then Q (.bl stop) H4 else Pv (i + 1) H4 else Pv (i + 1) H3)
    (last : ∀ H, Pv n H → Q (.bl (!stop)) H) : ∃ W : Nat → Nat → Hp → Prop, (∃ m, W 0 m Hs) ∧ ∀ i m H, W i m H →
      (J.stop i H ∧ Q (.bl (!stop)) H) ∨ (J.go i H ∧ ∃ Nx : Hp → Prop, (∀ H', Nx H' → ∃ m', m' < m ∧ W (i + 1) m' H') ∧ ∀ x H', J.yld i H x H' → g x (wipe σ vs) H' fun σ2 H2 => wipe σ2 vs = wipe σ vs ∧ tt σ2 H2 fun b H3 =>
        if b = true then te σ2 H3 fun y H4 => ∃ c, y = .bl c ∧ if c = stop then Q (.bl stop) H4 else Nx H4 else Nx H3) := by
  refine ⟨fun i left H => i + left = n ∧ Pv i H, ⟨n, Nat.zero_add n, first⟩, fun i left H here => ?_⟩
  obtain ⟨count, now⟩ := here
  cases left with
  | zero =>
    obtain rfl : i = n := count
    exact .inl ⟨w.stops H (stands _ H now), last H now⟩
  | succ fewer =>
    have more : i < n := by omega
    exact .inr ⟨w.goes i H more (stands i H now), Pv (i + 1), fun H' then_ => ⟨fewer, Nat.lt_succ_self fewer, by omega, then_⟩, fun x H' given => turn i x H H' more now (w.yields i H x H' more (stands i H now) given)⟩
end Gx
end PySem
namespace PySem
namespace Gx
open PySem.W PySem.Calls PyProof.Rows L2 GenW
def Fit (c : Int) : Prop := -(2 ^ 63) ≤ c ∧ c < 2 ^ 63
/-- the list that holds the total -/
def ownL (tot : Int) (t : Tok) (c : Nat) : Obj := { cls := .type "list", dict := none, data := .seq #[.int tot t] c, slots := #[] }
section
variable {prog : Program} {w : World} {A : Around} {R : Result → Shared → Prop} {I S : Addr}
theorem sum_loop (W : Nat → Int → Shared → Prop) (step : ∀ m tot s, W m tot s → (∃ tA c, s.heap.get? S = some (ownL tot tA c)) ∧ wpAny (model prog w) A.in1 (pyNext (.ref I)) (fun r s' => match r with
    | none => ∀ t, R (.ok (.ret (.int tot t))) s'
    | some v => ∃ b t tB c', v = .int b t ∧ Fit b ∧ Fit (tot + b) ∧ s'.heap.get? S = some (ownL tot tB c') ∧ ∃ m', m' < m ∧ W m' (tot + b) { s' with heap := s'.heap.update S (Obj.mapSeq fun _ => #[Value.int (tot + b) s'.toks]), toks := s'.toks + 1 }) (fun _ _ => False) s) :
    ∀ (m : Nat) (tot : Int) (s : Shared), W m tot s → codeAny (model prog w) A (.builtin "sum.loop" ⟨[.ref I, .ref S, rawInt 0, rawInt 0], []⟩) R s := by
  intro m
  induction m using Nat.strongRecOn with
  | ind m ih =>
    intro tot s here
    obtain ⟨⟨tA, c, before⟩, nxt⟩ := step m tot s here
    refine codeAny_builtin F.entry_sum_loop ?_
    rw [Around.under_plainId F.plain_sum_loop _]
    show wpAny _ A.in1 (seqItems? (.ref S) >>= _) _ _ s
    refine wpAny_bind (wpAny_seqItems before rfl (?_))
    show wpAny _ A.in1 (tryCatch (pyNext (.ref I)) _ >>= _) _ _ s
    refine wpAny_bind (wpAny_tryCatch (wpAny_mono nxt (fun r s' told => ?_) fun _ _ e => e.elim))
    cases r with
    | none => exact wpAny_pure (told tA)
    | some v =>
      obtain ⟨b, t, tB, c', rfl, f1, f2, after, m', less, then_⟩ := told
      show wpAny _ A.in1 (if (_ : Bool) = true then (mkInt (tot + b) >>= _) else _) _ _ s'
      have fits : (decide (-(2 ^ 63) ≤ b) && decide (b < 2 ^ 63) && (decide (-(2 ^ 63) ≤ tot + b) && decide (tot + b < 2 ^ 63))) = true := by
        rw [decide_eq_true f1.1, decide_eq_true f1.2, decide_eq_true f2.1, decide_eq_true f2.2]
        rfl
      split
      rotate_left
      · rename_i bad
        exact absurd fits bad
      refine wpAny_bind (wpAny_mkInt (?_))
      show wpAny _ A.in1 (updateSeq S (fun _ => #[.int (tot + b) s'.toks]) >>= _) _ _ _
      refine wpAny_bind (?_)
      exact wpAny_updateSeq after rfl (wpAny_pure ⟨plainId_quiet F.plain_sum_loop _, ih m' less (tot + b) _ then_⟩)
end
/-- the consumer's list S alone has changed: b more -/
structure SlS (S : Addr) (b : Int) (s s' : Shared) : Prop where
  os : s'.os = s.os
  bare : AllBare s'.gens
  heap : ∀ x o, x ≠ S → s.heap.get? x = some o → s'.heap.get? x = some o
  own : ∀ tot t c, s.heap.get? S = some (ownL tot t c) → ∃ t' c', s'.heap.get? S = some (ownL (tot + b) t' c')
def SrS (S : Addr) (v : Value) (s s' : Shared) : Prop := ∀ b t, v = .int b t → SlS S b s s'
def CS (a : Addr) (g : Nat) (S : Addr) (s₀ : Shared) (v : Value) (s : Shared) : Prop := ∃ b t tot t1 c1 t2 c2, v = .int b t ∧ Fit b ∧ Fit (tot + b) ∧ s₀.heap.get? S = some (ownL tot t1 c1) ∧ s.heap.get? S = some (ownL tot t2 c2) ∧ s.heap.IsGen a g ∧ s.heap.NoLimit ∧ AllBare s.gens
def DS (S : Addr) (Q : Int → Shared → Prop) (s₀ s : Shared) : Prop := AllBare s.gens ∧ ∃ tot t1 c1, s₀.heap.get? S = some (ownL tot t1 c1) ∧ ∀ s', Ex s s' → Q tot s'
def Ws (prog : Program) (w : World) (A : Around) (a : Addr) (g : Nat) (S : Addr) (Q : Int → Shared → Prop) (m : Nat) (s : Shared) : Prop :=
  s.heap.IsGen a g ∧ s.heap.NoLimit ∧ AllBare s.gens ∧ ∃ gs, s.gens[g]? = some gs ∧ gs.Goes (model prog w) A (Rg (DS S Q)) (Yx (SrS S) (CS a g S) fun _ => True) m (.send .none) (s.setGen g .running)
theorem ownL_inj {x y : Int} {t u : Tok} {c d : Nat} (h : ownL x t c = ownL y u d) : x = y := by
  unfold ownL at h
  injection h with _ _ h
  injection h with h
  injection h with h
  injection h with h
  injection h
section
variable {prog : Program} {w : World} {A : Around} {E : Value → Shared → Prop} {a S : Addr} {g : Nat}
theorem next_s {Q : Int → Shared → Prop} {R : Option Value → Shared → Prop} {m : Nat} {s : Shared} {tot : Int} {tA : Tok} {c : Nat} (hh : A.handled = none) (hd : A.depth < recursionLimit) (apart : a ≠ S) (statics : cStatics ≠ S)
    (hW : Ws prog w A.in1 a g S Q m s) (before : s.heap.get? S = some (ownL tot tA c))
    (hnone : ∀ s', Q tot s' → R none s')
    (hgo : ∀ s' b t tB c', Fit b → Fit (tot + b) → s'.heap.get? S = some (ownL tot tB c') → (∃ m', m' < m ∧ ∀ h' tk, (∀ x o, x ≠ S → s'.heap.get? x = some o → h'.get? x = some o) → (∃ t' c', h'.get? S = some (ownL (tot + b) t' c')) → Ws prog w A.in1 a g S Q m' { s' with heap := h', toks := tk }) → R (some (.int b t)) s') :
    wpAny (model prog w) A (pyNext (.ref a)) R E s := by
  obtain ⟨hg, hl, hb, gs, hgs, goes⟩ := hW
  have hgl : g < s.gens.size := (Array.getElem?_eq_some_iff.mp hgs).1
  refine wpAny_gsz (n := g + 1) hgl (next_genG (F := fun _ s₀ s₁ => DS S Q s₀ s₁) (Er := fun _ _ => False) hh hl hd hg hgs goes (fun v s₁ gs' hbare hv => ?_) (fun s₁ hp h' hk => ?_) fun e s₁ he => he.elim)
  · intro hsz
    obtain ⟨⟨b, t, tot', t1, c1, t2, c2, rfl, f1, f2, s0S, s1S, hg1, hl1, hb1⟩, hk⟩ := hv
    have e : tot' = tot := by
      have z : s.heap.get? S = some (ownL tot' t1 c1) := s0S
      rw [before] at z
      injection z with z
      exact (ownL_inj z).symm
    subst e
    have hsz1 : g < s₁.gens.size := by
      have q : (s₁.setGen g gs').gens.size = s₁.gens.size := setGen_size _ _ _
      have hsz' : g + 1 ≤ (s₁.setGen g gs').gens.size := hsz
      omega
    refine hgo _ b t t2 c2 f1 f2 s1S ?_
    cases m with
    | zero =>
      exfalso
      refine hk trivial { s₁ with heap := s₁.heap.update S (Obj.mapSeq fun _ => #[Value.int (tot' + b) t2]) } fun b' t' z => ?_
      injection z with z
      subst z
      refine ⟨rfl, hb1, fun x o hx q => (Heap.get?_update_other _ _ (fun h : S = x => hx h.symm)).trans q, fun tot2 t3 c3 q => ?_⟩
      rw [s1S] at q
      injection q with q
      have := ownL_inj q
      subst this
      exact ⟨t2, _, Heap.get?_update_self _ s1S rfl⟩
    | succ k =>
      refine ⟨k, Nat.lt_succ_self k, fun h' tk others mine => ⟨?_, hl1.at fun o q => others _ o statics q, allBare_setGen hb1 hbare, gs', setGen_at hsz1, hk trivial _ fun b' t' z => ?_⟩⟩
      · obtain ⟨o, nm, qn, ho, r⟩ := hg1
        exact ⟨o, nm, qn, others a o apart ho, r⟩
      · injection z with z
        subst z
        refine ⟨rfl, allBare_setGen (s := { s₁.setGen g gs' with heap := h', toks := tk }) (allBare_setGen hb1 hbare) rfl, others, fun tot2 t3 c3 q => ?_⟩
        rw [s1S] at q
        injection q with q
        have := ownL_inj q
        subst this
        exact mine
  · intro hsz
    obtain ⟨hb1, tot', t1, c1, s0S, q⟩ := hp
    have e : tot' = tot := by
      have z : s.heap.get? S = some (ownL tot' t1 c1) := s0S
      rw [before] at z
      injection z with z
      exact (ownL_inj z).symm
    subst e
    exact hnone _ (q _ ⟨rfl, allBare_setGen hb1 rfl, hk⟩)
theorem call_sum_gen {Q : Value → Shared → Prop} {m : Nat} {s : Shared} (hh : A.handled = none) (hd : A.depth + 1 < recursionLimit) (hg : s.heap.IsGen a g) (statics : cStatics < s.heap.objs.size)
    (hW : ∀ t tk, Ws prog w A.in1.in1 a g s.heap.objs.size (fun tot s' => ∀ t, Q (.int tot t) s') m { s with heap := s.heap.push (ownL 0 t 0), toks := tk }) :
    wpAny (model prog w) A (call (.builtin "sum") [.ref a]) Q E s := by
  have lt : a < s.heap.objs.size := by
    obtain ⟨o, nm, qn, ho, r⟩ := hg
    exact Heap.lt_size ho
  refine call_function_tree F.kind_sum F.plain_sum F.entry_sum (F.args_sum1 _) ?_
  unfold Builtin.«sum»
  simp only [List.length_cons, List.length_nil]
  rw [if_neg (by decide)]
  refine wpAny_bind (wpAny_of_eq (show Builtin.Builtins.bindParams "sum" ["start"] 0 { } = pure [none] from rfl) (?_))
  refine wpAny_bind (wpAny_pyIter_gen hg (?_))
  refine wpAny_bind (wpAny_mkInt (?_))
  refine wpAny_bind (wpAny_pure (?_))
  simp only [List.forIn_cons, List.forIn_nil]
  refine wpAny_bind (wpAny_bind (wpAny_bind (wpAny_isInstance (T := "int") (b := false) (typeIs_int _ _ _) sub_int_str (?_))))
  simp only [Bool.false_eq_true, if_false]
  refine wpAny_pure (wpAny_bind (wpAny_bind (wpAny_isInstance (T := "int") (b := false) (typeIs_int _ _ _) sub_int_bytes (?_))))
  simp only [Bool.false_eq_true, if_false]
  refine wpAny_pure (wpAny_bind (wpAny_bind (wpAny_isInstance (T := "int") (b := false) (typeIs_int _ _ _) sub_int_bytearray (?_))))
  simp only [Bool.false_eq_true, if_false]
  refine wpAny_pure (wpAny_pure (?_))
  refine wpAny_bind (wpAny_newObj_type (?_))
  refine wpAny_pure ⟨plainId_quiet F.plain_sum_loop _, ?_⟩
  refine sum_loop (A := A) (S := s.heap.objs.size) (fun m tot s' => Ws prog w A.in1.in1 a g s.heap.objs.size (fun tot s' => ∀ t, Q (.int tot t) s') m s' ∧ ∃ tA c, s'.heap.get? s.heap.objs.size = some (ownL tot tA c)) (fun m tot s' here => ⟨here.2, ?_⟩) m 0 _ ⟨hW _ _, _, _, Heap.get?_push_size _ rfl⟩
  obtain ⟨hW', tA, c, before⟩ := here
  refine next_s (A := A.in1) hh (by show A.depth < _; omega) (Nat.ne_of_lt lt) (Nat.ne_of_lt statics) hW' before (fun s2 q t => q t) fun s2 b t tB c' f1 f2 after more => ?_
  obtain ⟨m', less, then_⟩ := more
  exact ⟨b, t, tB, c', rfl, f1, f2, after, m', less, then_ _ _ (fun x o hx q => (Heap.get?_update_other _ _ (fun h => hx h.symm)).trans q) ⟨_, _, Heap.get?_update_self _ after rfl⟩, _, _, Heap.get?_update_self _ after rfl⟩
end
end Gx
end PySem
/-! ### the rule -/
namespace PySem
namespace Gx
open PySem.W PySem.Calls PyProof.Rows L2 GenW
/-- sum(e for t in it if c): the total goes along with the walk -/
def tSum (wi : TI) (g : TG) (tt : TT) (te : TE) (vs : List Nat) (P : Addr) : TE := fun σ H Q => wi σ H fun J H1 => GxR.TabG H1 P ∧ ∀ H2, GxR.Tabbed P H1 H2 → ∃ W : Nat → Nat → Int → Hp → Prop, (∃ m, W 0 m 0 H2) ∧ ∀ i m tot H, W i m tot H →
  (J.stop i H ∧ Q (.int tot) H) ∨ (J.go i H ∧ ∃ Nx : Int → Hp → Prop, (∀ t' H', Nx t' H' → ∃ m', m' < m ∧ W (i + 1) m' t' H') ∧ ∀ x H', J.yld i H x H' → g x (wipe σ vs) H' fun σ2 H2 => wipe σ2 vs = wipe σ vs ∧ tt σ2 H2 fun b H3 =>
    if b = true then te σ2 H3 fun y H4 => ∃ c, y = .int c ∧ Fit c ∧ Fit (tot + c) ∧ Nx (tot + c) H4 else Nx tot H3)
section
variable {X : L2.Cx} {pins : List (Addr × Obj)} {σ : L2.St} {H : Hp} {s : Shared}
theorem inv_slS {Y : L2.Cx} {pins : List (Addr × Obj)} {σ : L2.St} {H : Hp} {s s' : Shared} {S : Addr} {b : Int} (I : Inv Y pins σ H s) (h : SlS S b s s') (f : FpOk Y pins H S) : Inv Y pins σ H s' :=
  inv_sl (I.turnedL (ch := [S]) (h' := s'.heap) (t' := s'.toks) (fun x o hx e => h.heap x o (by simpa using hx) e) fun x hx => by rw [List.mem_singleton.mp hx]; exact f) ⟨h.os, h.bare, rfl⟩
theorem pe_sum {c P : Addr} {elt tg iter : Expr} {ifs : List Expr} {x : Str} {p pos gpos : Pos} {scope : Scope} {own : List (Str × Nat)} {wi : TI} {g : TG} {tt : TT} {te : TE} {k : Nat}
    (hr : Room (k + 3) X.A) (hc : X.calm = true) (hN : X.N.Nodup) (hgl : Gl X "sum") (hm : X.mg "sum" = none) (TB : GxR.TabB X.base X.mg c P) (hcode : X.env.code = .ref c) (GS : GxR.GenS X.env scope x) (ok : BlkOk X.N X.env.scope scope own)
    (hi : PI X tg iter wi)
    (target : ∀ (B : Around) (s : Shared) (H : Hp) (C : Addr) (code : Value) (fp : List Addr) (pn : List (Addr × Obj)), Room k B → PG (gcx X B s H (genEnv scope (cloFrom X.env.cells scope.names []) C code builtinsNs X.env) fp pn) tg g)
    (tests : ∀ (B : Around) (s : Shared) (H : Hp) (C : Addr) (code : Value) (fp : List Addr) (pn : List (Addr × Obj)), Room k B → PTs (gcx X B s H (genEnv scope (cloFrom X.env.cells scope.names []) C code builtinsNs X.env) fp pn) ifs tt)
    (elem : ∀ (B : Around) (s : Shared) (H : Hp) (C : Addr) (code : Value) (fp : List Addr) (pn : List (Addr × Obj)), Room k B → PE (gcx X B s H (genEnv scope (cloFrom X.env.cells scope.names []) C code builtinsNs X.env) fp pn) elt te)
    (hs : ∀ v, genFold iter X.env v = pure v)
    (he : starEach [.GeneratorExp elt [⟨tg, iter, ifs, 0⟩] scope gpos] X.env = (false, eval (.GeneratorExp elt [⟨tg, iter, ifs, 0⟩] scope gpos) X.env) :: starEach [] X.env := by rfl) :
    PE X (.Call (.Name "sum" p) [.GeneratorExp elt [⟨tg, iter, ifs, 0⟩] scope gpos] [] pos) (tSum wi g tt te (own.map (·.2)) P) := by
  refine ⟨fun pins s σ H Q I h => ?_⟩
  have frames := I.ok.frames
  have hb : bootBuiltins "sum" = some (.builtin "sum") := by decide +kernel
  refine wpAny_Call_Name_kw (ld_blt I hgl hm hb ?_ (by decide) (by decide))
  refine PyProof.Rows.callWith_builtin1 ?_ he (by rfl)
  rw [he]
  show wpAny _ _ (spliced ((false, eval (.GeneratorExp elt [⟨tg, iter, ifs, 0⟩] scope gpos) X.env) :: backTo pos (starEach [] X.env))) _ _ s
  refine Calls.spliced_cons (gen_make hr TB hcode GS hi hs I h fun it fp tn J H1 H2 code C a gi s4 s5 q tab I4 hC keep os st4 I5 T st5 f2 hns fC hCf hgen fa haf haC hgs => ?_)
  refine Calls.spliced_nil ?_
  obtain ⟨W, ⟨m0, w0⟩, turn⟩ := q H2 tab
  subst hC
  have lt4 : ∀ b ∈ fp, b < s4.heap.objs.size := fun b hb => by
    obtain ⟨o, ho, _⟩ := T.obj _ _ st4 b hb
    exact Heap.lt_size ho
  have C5 : s4.heap.objs.size < s5.heap.objs.size := hns.lt
  have a5 : a < s5.heap.objs.size := by
    obtain ⟨o, nm, qn, ho, r⟩ := id hgen
    exact Heap.lt_size ho
  have st5lt : cStatics < s5.heap.objs.size := by
    obtain ⟨mc, hn, _⟩ := I5.nolimit
    exact hn.lt
  obtain ⟨ga, gnm, gqn, gho, gcl, gdt, gsl⟩ := id hgen
  refine call_sum_gen (m := m0 + 1) (Q := fun u s' => ∃ v H', Inv X pins σ H' s' ∧ RelV v u ∧ Q v H') hr.hd (by have := hr.dp; omega) hgen st5lt fun t tk => ?_
  have I6 : Inv X pins σ H2 { s5 with heap := s5.heap.push (ownL 0 t 0), toks := tk } := I5.kept (t' := tk) fun b o e => Heap.get?_push_of_some _ e
  have hS : (s5.heap.push (ownL 0 t 0)).get? s5.heap.objs.size = some (ownL 0 t 0) := Heap.get?_push_size _ rfl
  have fS : FpOk X pins H2 s5.heap.objs.size := I5.fpOk (Nat.le_refl _) (I5.hok.fresh (Nat.le_refl _))
  have keep6 : ∀ b o, s5.heap.get? b = some o → (s5.heap.push (ownL 0 t 0)).get? b = some o := fun b o e => Heap.get?_push_of_some _ e
  have Sfp : s5.heap.objs.size ∉ fp := fun z => absurd (Nat.lt_trans (lt4 _ z) C5) (Nat.lt_irrefl _)
  have aS : a ≠ s5.heap.objs.size := Nat.ne_of_lt a5
  have f2S : ∀ b ∈ s5.heap.objs.size :: fp, FpOk X pins H2 b := fun b hb => by
    rcases List.mem_cons.mp hb with rfl | hb
    · exact fS
    · exact f2 b hb
  have st6 : tn 0 (s5.heap.push (ownL 0 t 0)) := T.keep _ _ _ st5 fun b _ o e => keep6 b o e
  have fpt : ∀ {i : Nat} {h : Heap}, tn i h → (∃ tot t c, h.get? s5.heap.objs.size = some (ownL tot t c)) → ∀ b ∈ s5.heap.objs.size :: fp, ∃ o, h.get? b = some o ∧ ∀ v, o.data ≠ .cell v := fun {i h} ht hz b hb => by
    rcases List.mem_cons.mp hb with rfl | hb
    · obtain ⟨tot, t, c, e⟩ := hz
      exact ⟨_, e, fun v z => by cases z⟩
    · exact T.obj _ _ ht b hb
  generalize s5.heap.objs.size = S at *
  have rb : Room k (X.A.in1.in1.over (.compLoop (.GeneratorExp elt [⟨tg, iter, ifs, 0⟩] scope gpos) 0 (.ref it) .none (genEnv scope (cloFrom X.env.cells scope.names []) s4.heap.objs.size code builtinsNs X.env)) []) := ⟨hr.hd, by
    have := hr.dp
    show X.A.depth + 1 + 3 * k + 5 < recursionLimit
    omega, by
    have := hr.un
    show X.A.units + 5 + 16 * k + 200 < cLine
    omega⟩
  have start := gx_start (code := code) (it := .ref it) (own := own) (fp := S :: fp) (pn := [(a, ga)]) I4 I6 ok hN GS.cell hc (B := X.A.in1.in1.over (.compLoop (.GeneratorExp elt [⟨tg, iter, ifs, 0⟩] scope gpos) 0 (.ref it) .none (genEnv scope (cloFrom X.env.cells scope.names []) s4.heap.objs.size code builtinsNs X.env)) [])
    hr.hd (gx_frames rfl frames) (fun b hb => ⟨f2S b hb, by
      rcases List.mem_cons.mp hb with rfl | hb
      · exact Nat.ne_of_gt C5
      · exact Nat.ne_of_lt (lt4 b hb)⟩) (fun b o e => keep6 b o (keep b o e)) os (hns.push _) (fun p hp => by
      rw [List.mem_singleton.mp hp]
      refine ⟨keep6 _ _ gho, fa.1, haC, fun z => ?_, fun v z => ?_⟩
      · rcases List.mem_cons.mp (I4.stkSub a z) with z | z
        · exact fa.2.1 z
        · exact fa.2.2.1 z
      · rw [gdt] at z; cases z)
  have hgen6 : (s5.heap.push (ownL 0 t 0)).IsGen a gi := ⟨ga, gnm, gqn, keep6 _ _ gho, gcl, gdt, gsl⟩
  refine ⟨hgen6, I6.nolimit, I6.bare, _, hgs, rfl, seg_rg (seg_start (fun B Q E hq => T.self B 0 _ Q E st6 hq) (seg_loop rfl GS.co
    (fun m s₀ s => ∃ i H' tot t1 c1 t2 c2, Inv (gcx X (X.A.in1.in1.over (.compLoop (.GeneratorExp elt [⟨tg, iter, ifs, 0⟩] scope gpos) 0 (.ref it) .none (genEnv scope (cloFrom X.env.cells scope.names []) s4.heap.objs.size code builtinsNs X.env)) []) s4 H2 (genEnv scope (cloFrom X.env.cells scope.names []) s4.heap.objs.size code builtinsNs X.env) (S :: fp) [(a, ga)]) [] (wipe σ (own.map (·.2))) H' s ∧
      tn i s.heap ∧ (∀ b ∈ S :: fp, H' b = none) ∧ s₀.heap.get? S = some (ownL tot t1 c1) ∧ s.heap.get? S = some (ownL tot t2 c2) ∧ W i m tot H') ?_ m0 (m0 + 1) _ _ (Nat.lt_succ_self _) ⟨0, H2, 0, t, 0, t, 0, ?_, st6, fun b hb => (f2S b hb).1, hS, hS, w0⟩))⟩
  · generalize hBB : X.A.in1.in1.over (.compLoop (.GeneratorExp elt [⟨tg, iter, ifs, 0⟩] scope gpos) 0 (.ref it) .none (genEnv scope (cloFrom X.env.cells scope.names []) s4.heap.objs.size code builtinsNs X.env)) [] = B at rb ⊢
    have pg := target B s4 H2 s4.heap.objs.size code (S :: fp) [(a, ga)] rb
    have pt := tests B s4 H2 s4.heap.objs.size code (S :: fp) [(a, ga)] rb
    have pe := elem B s4 H2 s4.heap.objs.size code (S :: fp) [(a, ga)] rb
    have stat : ∀ {σ' : L2.St} {H' : Hp} {s' : Shared} {ps : List (Addr × Obj)}, Inv (gcx X B s4 H2 (genEnv scope (cloFrom X.env.cells scope.names []) s4.heap.objs.size code builtinsNs X.env) (S :: fp) [(a, ga)]) ps σ' H' s' → ∀ b ∈ S :: fp, H' b = none → (∀ p ∈ ps, p.1 ≠ b) → FpOk (gcx X B s4 H2 (genEnv scope (cloFrom X.env.cells scope.names []) s4.heap.objs.size code builtinsNs X.env) (S :: fp) [(a, ga)]) ps H' b := fun {σ' H' s' ps} J b hb hn hp =>
      ⟨hn, (J.ok.exf b hb).1, J.ok.exfs b hb, .inl hb, fun x c e => (J.ok.exf b hb).2 x c e, fun p hp' => by
        rcases List.mem_append.mp hp' with z | z
        · rw [List.mem_singleton.mp z]
          intro e
          rcases List.mem_cons.mp hb with e' | e'
          · exact aS (by rw [← e']; exact e)
          · exact haf (by rw [show a = b from e]; exact e')
        · exact hp p z⟩
    have inS : S ∈ S :: fp := List.mem_cons_self
    have inF : ∀ b ∈ fp, b ∈ S :: fp := fun b hb => List.mem_cons_of_mem _ hb
    rintro m s₀ s5' ⟨i, H5, tot, t1, c1, t2, c2, I5', st5', n5, k0, k5, w5⟩
    -- the list of the total stands through the turn
    have Ip := I5'.pinned (fp := [S]) (fun b hb => by rw [List.mem_singleton.mp hb]; exact stat I5' S inS (n5 S inS) (fun p hp => by cases hp)) (fun b hb => by rw [List.mem_singleton.mp hb]; exact ⟨_, k5, fun v z => by cases z⟩)
    have pS : (S, ownL tot t2 c2) ∈ ([] : List (Addr × Obj)) ++ pinsAt [S] s5'.heap := List.mem_append_right _ (mem_pinsAt (List.mem_singleton.mpr rfl) k5)
    have only : ∀ p ∈ ([] : List (Addr × Obj)) ++ pinsAt [S] s5'.heap, p.1 = S := fun p hp => by
      rcases List.mem_append.mp hp with z | z
      · cases z
      · exact List.mem_singleton.mp (of_pinsAt z).1
    have statF : ∀ {σ' : L2.St} {H' : Hp} {s' : Shared}, Inv (gcx X B s4 H2 (genEnv scope (cloFrom X.env.cells scope.names []) s4.heap.objs.size code builtinsNs X.env) (S :: fp) [(a, ga)]) (([] : List (Addr × Obj)) ++ pinsAt [S] s5'.heap) σ' H' s' → (∀ b ∈ fp, H' b = none) → ∀ b ∈ fp, FpOk (gcx X B s4 H2 (genEnv scope (cloFrom X.env.cells scope.names []) s4.heap.objs.size code builtinsNs X.env) (S :: fp) [(a, ga)]) (([] : List (Addr × Obj)) ++ pinsAt [S] s5'.heap) H' b := fun {σ' H' s'} J hn b hb =>
      stat J b (inF b hb) (hn b hb) fun p hp e => Sfp (by rw [← only p hp, e]; exact hb)
    rcases turn i m tot H5 w5 with ⟨stop_, qq⟩ | ⟨go, Nx, hNx, step⟩
    · refine thnF (T.done (gcx X B s4 H2 (genEnv scope (cloFrom X.env.cells scope.names []) s4.heap.objs.size code builtinsNs X.env) (S :: fp) [(a, ga)]) rfl rfl rfl hc i _ s5' _ H5 (fun _ _ => False) Ip (statF Ip fun b hb => n5 b (inF b hb)) st5' stop_) fun r s6 ⟨hr6, J6⟩ => ?_
      subst hr6
      exact ⟨J6.bare, tot, t1, c1, k0, fun s' ex t => ⟨.int tot, H5, gx_back I4 f2S J6 ex, ⟨t, rfl⟩, qq⟩⟩
    · refine thnF (T.item (gcx X B s4 H2 (genEnv scope (cloFrom X.env.cells scope.names []) s4.heap.objs.size code builtinsNs X.env) (S :: fp) [(a, ga)]) rfl rfl rfl hc i _ s5' _ H5 (fun _ _ => False) Ip (statF Ip fun b hb => n5 b (inF b hb)) st5' go) fun r s6 ⟨u, hr6, h6⟩ => ?_
      subst hr6
      refine thnF h6 fun _ s7 ⟨x, H7, J7, r7, y7, st7, n7⟩ => ?_
      have J7' := J7.pinned (statF J7 n7) (T.obj _ _ st7)
      refine thnF (pg.run _ s7 _ H7 x u _ J7' r7 (step x H7 y7)) fun _ s8 ⟨σ8, H8, J8, hw8, q8⟩ => ?_
      refine thnF (pt.run _ s8 σ8 H8 _ J8 q8) fun b s9 ⟨H9, J9, q9⟩ => ?_
      have ends : ∀ {s' : Shared} {H' : Hp} {tot' : Int}, Inv (gcx X B s4 H2 (genEnv scope (cloFrom X.env.cells scope.names []) s4.heap.objs.size code builtinsNs X.env) (S :: fp) [(a, ga)]) ((([] : List (Addr × Obj)) ++ pinsAt [S] s5'.heap) ++ pinsAt fp s7.heap) σ8 H' s' → Nx tot' H' → s'.heap.get? S = some (ownL tot t2 c2) ∧ ∃ m', m' < m ∧ ∃ i H', Inv (gcx X B s4 H2 (genEnv scope (cloFrom X.env.cells scope.names []) s4.heap.objs.size code builtinsNs X.env) (S :: fp) [(a, ga)]) [] (wipe σ (own.map (·.2))) H' s' ∧ tn i s'.heap ∧ (∀ b ∈ S :: fp, H' b = none) ∧ W i m' tot' H' := fun {s' H' tot'} J nx => by
        obtain ⟨m', less, w'⟩ := hNx tot' H' nx
        have zS := J.pin (S, ownL tot t2 c2) (List.mem_append_right _ (List.mem_append_left _ pS))
        have pin' : ∀ b ∈ fp, ∀ o, s7.heap.get? b = some o → s'.heap.get? b = some o ∧ H' b = none := fun b hb o e =>
          let z := J.pin (b, o) (List.mem_append_right _ (List.mem_append_right _ (mem_pinsAt hb e)))
          ⟨z.1, z.2.1⟩
        have hl : (wipe σ (own.map (·.2))).length = σ8.length := by rw [← hw8, wipe_length]
        refine ⟨zS.1, m', less, i + 1, H', ((J.unpinned (pins := ([] : List (Addr × Obj)) ++ pinsAt [S] s5'.heap)).unpinned (pins := [])).weak hl (fun j v e => ?_), T.keep _ _ _ st7 fun b hb o e => (pin' b hb o e).1, fun b hb => ?_, w'⟩
        · rw [← hw8] at e
          exact (wipe_some e).1
        · rcases List.mem_cons.mp hb with rfl | hb
          · exact zS.2.1
          · obtain ⟨o, e, _⟩ := T.obj _ _ st7 b hb
            exact (pin' b hb o e).2
      cases b with
      | false =>
        simp only [Bool.false_eq_true, if_false] at q9 ⊢
        obtain ⟨kS, m', less, i', H', J', tn', n', w'⟩ := ends J9 q9
        exact ⟨m', less, i', H', tot, t1, c1, t2, c2, J', tn', n', k0, kS, w'⟩
      | true =>
        simp only [if_true] at q9 ⊢
        refine thnF (pe.run _ s9 σ8 H9 _ J9 q9) fun z s10 ⟨yv, H10, J10, r10, b10, e10, f1, f2', q10⟩ => ?_
        subst e10
        obtain ⟨tz, r10⟩ : ∃ t, z = .int b10 t := r10
        obtain ⟨kS, m', less, i', H', J', tn', n', w'⟩ := ends J10 q10
        refine ⟨⟨b10, tz, tot, t1, c1, t2, c2, r10, f1, f2', k0, kS, ⟨ga, gnm, gqn, (J10.pin (a, ga) (by simp)).1, gcl, gdt, gsl⟩, J10.nolimit, J10.bare⟩, fun _ => ⟨m', less, fun s' hs' => ?_⟩⟩
        have z := hs' b10 tz r10
        obtain ⟨t3, c3, k3⟩ := z.own tot t2 c2 kS
        exact ⟨i', H', tot + b10, t3, c3, t3, c3, inv_slS J' z (stat J' S inS (n' S inS) fun p hp => by cases hp), T.keep _ _ _ tn' fun b hb o e => z.heap b o (fun q => Sfp (by rw [← q]; exact hb)) e, n', k3, k3, w'⟩
  · exact inv_sl start ⟨rfl, allBare_setGen I6.bare rfl, rfl⟩
end
end Gx
end PySem
namespace PySem
namespace Gx
open PySem.W PySem.Calls PyProof.Rows L2 GenW
/-- Pv: what is true ahead of each turn, with the total -/
theorem sum_walk {J : It} {n : Nat} {G : Hp → Prop} {Y : Nat → Hp → V → Hp → Prop} {g : TG} {tt : TT} {te : TE} {vs : List Nat} {σ : L2.St} {Hs : Hp} {Q : VK} (w : Walk J n G Y) (Pv : Nat → Int → Hp → Prop) (first : Pv 0 0 Hs) (stands : ∀ i t H, Pv i t H → G H)
    (turn : ∀ i t x H H', i < n → Pv i t H → Y i H x H' → g x (wipe σ vs) H' fun σ2 H2 => wipe σ2 vs = wipe σ vs ∧ tt σ2 H2 fun b H3 => if b = true then te σ2 H3 fun y H4 => ∃ c, y = .int c ∧ Fit c ∧ Fit (t + c) ∧ Pv (i + 1) (t + c) H4 else Pv (i + 1) t H3)
    (last : ∀ t H, Pv n t H → Q (.int t) H) : ∃ W : Nat → Nat → Int → Hp → Prop, (∃ m, W 0 m 0 Hs) ∧ ∀ i m tot H, W i m tot H →
      (J.stop i H ∧ Q (.int tot) H) ∨ (J.go i H ∧ ∃ Nx : Int → Hp → Prop, (∀ t' H', Nx t' H' → ∃ m', m' < m ∧ W (i + 1) m' t' H') ∧ ∀ x H', J.yld i H x H' → g x (wipe σ vs) H' fun σ2 H2 => wipe σ2 vs = wipe σ vs ∧ tt σ2 H2 fun b H3 =>
        if b = true then te σ2 H3 fun y H4 => ∃ c, y = .int c ∧ Fit c ∧ Fit (tot + c) ∧ Nx (tot + c) H4 else Nx tot H3) := by
  refine ⟨fun i left t H => i + left = n ∧ Pv i t H, ⟨n, Nat.zero_add n, first⟩, fun i left t H here => ?_⟩
  obtain ⟨count, now⟩ := here
  cases left with
  | zero =>
    obtain rfl : i = n := count
    exact .inl ⟨w.stops H (stands _ _ H now), last _ H now⟩
  | succ fewer =>
    have more : i < n := by omega
    exact .inr ⟨w.goes i H more (stands _ _ H now), Pv (i + 1), fun t' H' then_ => ⟨fewer, Nat.lt_succ_self fewer, by omega, then_⟩, fun x H' given => turn i t x H H' more now (w.yields i H x H' more (stands _ _ H now) given)⟩
end Gx
end PySem
namespace PySem
namespace Gx
open PySem PySem.W PySem.Calls PyProof.Rows L2 GenW
/-- the names of a generator expression, checked -/
theorem genS_by {env : Env} {scope : Scope} {x : Str} (h1 : scope.kind = .function) (h2 : scope.isCoroutine = false) (h3 : (scope.names.all fun y => match y.2 with | .cell => false | _ => true) = true) (h4 : scope.names.lookup (".0" : Str) = some NameKind.local)
    (h5 : scope.names.lookup x = some .local) (h6 : (scope.names.all fun y => match y.2 with | .free => (env.cells.lookup y.1).isSome | _ => true) = true) : GxR.GenS env scope x where
  kind := h1
  co := h2
  cell := fun y hy z => by
    have := List.all_eq_true.mp h3 y hy
    rw [z] at this
    cases this
  dot := h4
  loc := h5
  free := fun y hy z => by
    have := List.all_eq_true.mp h6 y hy
    rw [z] at this
    exact Option.isSome_iff_exists.mp this
end Gx
end PySem
namespace My
open PySem L2 PySem.Spec PyProof.Rows
theorem yesI {σ : L2.St} {H : Hp} {F : Bool → Hp → Prop} (h : F true H) : tYes σ H F := h
/-- a sum of tuples, wherever it stands -/
theorem catA_of {K : PySem.W.Frag} {H : Hp} {Q : VK} {a b : Addr} {xs ys : List V} (hx : SqT K H a xs) (hy : SqT K H b ys) (hl : xs.length + ys.length ≤ sizeLine) (k : ∀ p H', Same H H' → SqT K H' p (xs ++ ys) → Q (.ref p) H') : rCatA K (.ref a) (.ref b) H Q := by
  refine ⟨a, b, xs, ys, rfl, rfl, hx, hy, hl, fun e => ?_, fun _ e => ?_, fun _ _ p hp => k p _ (same_new hp) tHere⟩
  · subst e; exact k b H (Same.refl _) hy
  · subst e; exact k a H (Same.refl _) (by rw [List.append_nil]; exact hx)
theorem cut_whole {xs : List V} {lo hi : Option Int} (h : HT.sIx xs.length 0 lo = 0 ∧ HT.sIx xs.length xs.length hi = xs.length) : cutV xs lo hi = xs := by
  unfold cutV
  rw [h.1, h.2]
  simp
theorem slA_of {K : PySem.W.Frag} {H : Hp} {Q : VK} {a : Addr} {xs : List V} {lo hi : Option Int} (hx : SqT K H a xs) (k : ∀ p H', Same H H' → SqT K H' p (cutV xs lo hi) → Q (.ref p) H') : rSlA K (.ref a) lo hi H Q :=
  ⟨a, xs, rfl, hx, fun h => k a H (Same.refl _) (by rw [cut_whole h]; exact hx), fun _ p hp => k p _ (same_new hp) tHere⟩
/-- a def of which the code object is known -/
structure FunT (K : PySem.W.Frag) (x qual : Str) (st : Stmt) (f : Addr) (fd : FuncData) (c : Addr) : Prop where
  ex : ∃ (oc : Value) (od : Option Addr) (kV doc pm : Value) (an : Option Addr) (ct : Value) (osl : Array (Option Value)),
    fd = PySem.W.fnOf x qual (defArgs st) (defBody st) (defScope st) .none kV doc pm an (.ref c) ct ∧ K.lookup f = some ⟨oc, od, .func fd, osl⟩ ∧ PySem.W.codeIn K (.ref c) qual = true
  kp : PySem.W.keepIn K (.ref f) = true
theorem funT_mk {K : PySem.W.Frag} {x qual : Str} {st : Stmt} {f c : Addr} {oc : Value} {od an : Option Addr} {osl : Array (Option Value)} {kV doc pm cdv ct : Value} (l : K.lookup f = some ⟨oc, od, .func (PySem.W.fnOf x qual (defArgs st) (defBody st) (defScope st) .none kV doc pm an cdv ct), osl⟩)
    (h : PySem.W.codeIn K cdv qual = true) (k : PySem.W.keepIn K (.ref f) = true) (e : cdv = .ref c) : FunT K x qual st f (PySem.W.fnOf x qual (defArgs st) (defBody st) (defScope st) .none kV doc pm an cdv ct) c := by
  subst e
  exact ⟨⟨oc, od, kV, doc, pm, an, ct, osl, rfl, l, h⟩, k⟩
section
variable {P : Program} {w : World} {K : PySem.W.Frag} {mg : Str → Option Value} {base : Heap}
theorem FunT.ok {x qual : Str} {st : Stmt} {f c : Addr} {fd : FuncData} {N ps : List Str} {k : Nat} {sp : Sp} (F : FunT K x qual st f fd c) (S : FnScope N ps (defScope st)) (len : ∀ vs H Q E, sp vs H Q E → vs.length = ps.length)
    (hbody : ∀ (A : Around) (outer : List Env) (s : Shared) (H : Hp) (vs : List V) (Q : VK) (E : XK), Room k (A.deeper (envOfC qual (defScope st) s.heap.objs.size f (.ref c))) → sp vs H Q E →
      ∃ t, PSs (cxOf CX0 P w K mg base N qual (defScope st) f (.ref c) A outer s H E).nox (defBody st) t ∧ t { nx := fun _ H' => Q .non H', rt := Q } (start N vs) H) : FnOk P w K mg base CX0 (k + 1) f fd ps sp := by
  obtain ⟨oc, od, kV, doc, pm, an, ct, osl, rfl, lk, hcd⟩ := F.ex
  refine fn_of lk hcd S len fun A outer s H vs Q E hr hsp => ?_
  obtain ⟨t, h, q⟩ := hbody A outer s H vs Q E hr hsp
  exact ⟨t, h.nox, q⟩
end
/-- a def's code object and its table, from what stands in the part that is written out -/
theorem tabIn_of {K : PySem.W.Frag} {x : Str} {f c P : Addr} {oc t1 cdv : Value} {od t2 : Option Addr} {fd : FuncData} {osl t3 : Array (Option Value)} {vs : Array Value} (a : PySem.W.nsIn K mainGlobals x = some (some (.ref f))) (l : K.lookup f = some ⟨oc, od, .func fd, osl⟩) (hc : fd.code = cdv) (e : cdv = .ref c)
    (o : K.lookup c = some ⟨t1, t2, .fields vs, t3⟩) (v : (vs[11]? : Option Value) = some (.ref P)) : PySem.W.tabIn K x = some (c, P) := by
  unfold PySem.W.tabIn
  rw [a]
  show (match K.lookup f with | some ⟨_, _, .func fd, _⟩ => _ | _ => none) = _
  rw [l]
  show (match fd.code with | .ref c => _ | _ => none) = _
  rw [hc, e]
  show (match K.lookup c with | some ⟨_, _, .fields vs, _⟩ => _ | _ => none) = _
  rw [o]
  show (match (vs[11]? : Option Value) with | some (.ref P) => _ | _ => none) = _
  rw [v]
/-- a law with tables: what its promise asks -/
def spLawT (K : PySem.W.Frag) (ts : List Addr) : Sp := fun vs H Q _ => ∃ (a : Addr) (ns : List Int), vs = [.ref a] ∧ SqL K H a (ns.map V.int) ∧ ns.length ≤ 63 ∧ Tbs ts H ∧ ∀ H', Q (.bl true) H'
/-- what is known of the tables at the head -/
def TabsOf (q : Program) (K : PySem.W.Frag) (h : Heap) : Prop := ∀ (x : Str) (c P : Addr), ((recsOf q).any fun e => e.name == x) = true → PySem.W.tabIn K x = some (c, P) → PySem.W.CodeHd h c P ∧ h.get? P = some (PySem.W.tabObj #[])
theorem walkT {l : PySem.W.OpenLaw} {q : Program} {loose : List Str} {XP : (Str → Option Value) → Heap → Prop} {YP : World → Heap → Prop} {d : DefRec} {K : Params → PySem.W.Frag} {k : Nat} (hr : Room k callerA) (hn : l.most = some 63) (hdf : d.params.defaults = [])
    (hY : ∀ (w : World) (h : Heap), YP w h → (K w.params).In h)
    (F : ∀ (w : World) (mg : Str → Option Value) (fa : Addr) (h : Heap), TabsOf q (K w.params) h → (K w.params).In h → h.Ns mainGlobals mg → mg d.name = some (.ref fa) → LamX.LawAtS l w (K w.params) CX0 k 63 "script" mg fa h) :
    PySem.W.WalkO q loose XP YP l.row.toRowW d [] (fun f vs => PySem.call f vs) := by
  refine Att.attach_callB hn hdf fun w s₀ s₁ mg mb fa o pm cd doc a vs ns G Y ho hd hcd hmg hobj hints hlen hbits hg => ?_
  have KX := hY w _ Y
  obtain ⟨fd, cs, sp, hT, nT, C, hb, hsp, hF⟩ := F w mg fa _ (fun x c P hr ht => by
    obtain ⟨e, he⟩ := List.find?_isSome.mpr (List.any_eq_true.mp hr) |> Option.isSome_iff_exists.mp
    exact PySem.W.tab_of G.T KX he ht) KX G.T.g hmg
  exact LamX.law_callTs (CX := CX0) (k := k) (x := "script") KX G.T.g G.T.b G.T.builtins G.T.nolimit hg hT nT C G.T.bmain hobj hints (Nat.le_trans hlen (by decide)) hr hF hb (fun H hH hS => hsp H a ns hlen hbits hH hS) fun _ _ _ z => z
theorem tbs_nil {cs : List (Addr × Addr)} {ts : List Addr} {H : Hp} (e : cs.map (·.2) = ts) (h : ∀ p ∈ cs, H p.2 = some (.tbl #[])) : Tbs ts H := fun P hP => by
  subst e
  obtain ⟨p, hp, rfl⟩ := List.mem_map.mp hP
  exact ⟨#[], h p hp, True.intro⟩
end My
namespace My
open PySem L2
/-! ## looks, rules, styles as values -/
def betB (lo hi : Int) : V → Bool
  | .int i => decide (lo ≤ i) && decide (i ≤ hi)
  | _ => false
def LET : List Nat := (Str.ofString "abcdefghijklmnopqrstuvwxyz").cps.toList
def DIG : List Nat := (Str.ofString "0123456789").cps.toList
def headB : List Nat → Bool
  | c :: _ => decide (c ∈ LET)
  | [] => false
def nameB (s : Str) : Bool := (decide ((1 : Int) ≤ s.length) && decide ((s.length : Int) ≤ 12)) && (headB s.cps.toList && s.cps.toList.all fun c => decide (c ∈ LET) || decide (c ∈ DIG))
def nameV : V → Bool
  | .str s => nameB s
  | _ => false
def lookB : List V → Bool
  | [u, v] => betB 1 63 v && decide (u = .str "fill")
  | [u, v, x] => betB 1 63 v && ((decide (u = .str "stroke") || decide (u = .str "dot")) && betB 1 16 x)
  | _ => false
/-- the words that stand ahead -/
def lookU (xs : List V) : Prop := ∀ s r, xs = .str s :: r → s = "fill" ∨ s = "stroke" ∨ s = "dot" ∨ s = "paint"
def leV : V → V → Bool
  | .int i, .int j => decide (i ≤ j)
  | _, _ => false
def ruleB (k l m o : V) (c : Bool) : Bool := (nameV k || decide (k = .str "")) && (betB 0 6 l && (betB 0 6 m && (leV l m && (betB (-8) 8 o && c))))
section
variable {K : PySem.W.Frag} {H H' : Hp} {a p s D : Addr} {x v : V} {b c : Bool} {xs : List V} {o : HO}
/-- x is a value of which is_look is b -/
def LV (K : PySem.W.Frag) (H : Hp) (x : V) (b : Bool) : Prop := ∃ n, Ty K H x n ∧ (n = "tuple" → ∃ a xs, x = .ref a ∧ SqT K H a xs ∧ (∀ v ∈ xs, ∃ m, Ty K H v m) ∧ lookU xs ∧ b = lookB xs) ∧ (n ≠ "tuple" → b = false)
def RV (K : PySem.W.Frag) (H : Hp) (x : V) (b : Bool) : Prop := ∃ n, Ty K H x n ∧ (n = "tuple" → ∃ a xs, x = .ref a ∧ SqT K H a xs ∧ ((xs.length ≠ 5 ∧ b = false) ∨
  ∃ k l m o u c, xs = [k, l, m, o, u] ∧ (k = .non ∨ ∃ s : Str, k = .str s ∧ s.length ≤ 100) ∧ (∃ n, Ty K H l n) ∧ (∃ n, Ty K H m n) ∧ (∃ n, Ty K H o n) ∧ LV K H u c ∧ b = ruleB k l m o c)) ∧ (n ≠ "tuple" → b = false)
def StV (K : PySem.W.Frag) (H : Hp) (x : V) (b : Bool) : Prop := ∃ n, Ty K H x n ∧ (n = "tuple" → ∃ (a : Addr) (xs : List V) (bs : List Bool), x = .ref a ∧ SqT K H a xs ∧ xs.length ≤ 1000 ∧ bs.length = xs.length ∧
  (∀ (i : Nat) v c, xs[i]? = some v → bs[i]? = some c → RV K H v c) ∧ b = (decide ((xs.length : Int) ≤ 12) && bs.all id)) ∧ (n ≠ "tuple" → b = false)
theorem LV.same (e : Same H H') (h : LV K H x b) : LV K H' x b := by
  obtain ⟨n, t, h1, h2⟩ := h
  refine ⟨n, t.same e, fun q => ?_, h2⟩
  obtain ⟨a, xs, e1, e2, e3, e4⟩ := h1 q
  exact ⟨a, xs, e1, tSame e e2, fun v hv => (e3 v hv).imp fun _ h => h.same e, e4⟩
theorem RV.same (e : Same H H') (h : RV K H x b) : RV K H' x b := by
  obtain ⟨n, t, h1, h2⟩ := h
  refine ⟨n, t.same e, fun q => ?_, h2⟩
  obtain ⟨a, xs, e1, e2, e3⟩ := h1 q
  refine ⟨a, xs, e1, tSame e e2, e3.imp (fun z => z) ?_⟩
  rintro ⟨k, l, m, o, u, c, f1, f2, f3, f4, f5, f6, f7⟩
  exact ⟨k, l, m, o, u, c, f1, f2, f3.imp fun _ h => h.same e, f4.imp fun _ h => h.same e, f5.imp fun _ h => h.same e, f6.same e, f7⟩
/-- a good look -/
inductive Look : List V → Prop where
  | fill (c : Int) (h1 : 1 ≤ c) (h2 : c ≤ 63) : Look [.str "fill", .int c]
  | line (s : Str) (c w : Int) (hs : s = "stroke" ∨ s = "dot") (h1 : 1 ≤ c) (h2 : c ≤ 63) (h3 : 1 ≤ w) (h4 : w ≤ 16) : Look [.str s, .int c, .int w]
theorem two_ty {u v : V} {m n : String} (h1 : Ty K H u m) (h2 : Ty K H v n) : ∀ x ∈ [u, v], ∃ m, Ty K H x m := by
  intro x hx
  simp only [List.mem_cons, List.not_mem_nil, or_false] at hx
  rcases hx with rfl | rfl
  · exact ⟨_, h1⟩
  · exact ⟨_, h2⟩
theorem three_ty {u v z : V} {m n k : String} (h1 : Ty K H u m) (h2 : Ty K H v n) (h3 : Ty K H z k) : ∀ x ∈ [u, v, z], ∃ m, Ty K H x m := by
  intro x hx
  simp only [List.mem_cons, List.not_mem_nil, or_false] at hx
  rcases hx with rfl | rfl | rfl
  · exact ⟨_, h1⟩
  · exact ⟨_, h2⟩
  · exact ⟨_, h3⟩
theorem Look.ty (h : Look xs) : ∀ x ∈ xs, ∃ m, Ty K H x m := by
  cases h with
  | fill c _ _ => exact two_ty (.str _) (.int _)
  | line s c w _ _ _ _ _ => exact three_ty (.str _) (.int _) (.int _)
theorem Look.u (h : Look xs) : lookU xs := by
  intro s r e
  cases h with
  | fill c _ _ => injection e with e _; injection e with e; exact .inl e.symm
  | line z c w hs _ _ _ _ =>
    injection e with e _
    injection e with e
    subst e
    rcases hs with rfl | rfl
    · exact .inr (.inl rfl)
    · exact .inr (.inr (.inl rfl))
theorem betB_ok {lo hi i : Int} (h1 : lo ≤ i) (h2 : i ≤ hi) : betB lo hi (.int i) = true := by simp [betB, h1, h2]
theorem Look.ok (h : Look xs) : lookB xs = true := by
  cases h with
  | fill c h1 h2 => show (betB 1 63 (.int c) && decide _) = true; rw [betB_ok h1 h2]; rfl
  | line s c w hs h1 h2 h3 h4 =>
    show (betB 1 63 (.int c) && ((decide _ || decide _) && betB 1 16 (.int w))) = true
    rw [betB_ok h1 h2, betB_ok h3 h4]
    rcases hs with rfl | rfl <;> decide
theorem LV.of (h : SqT K H a xs) (hm : ∀ v ∈ xs, ∃ m, Ty K H v m) (hu : lookU xs) (e : lookB xs = b) : LV K H (.ref a) b := ⟨_, .tup h, fun _ => ⟨_, _, rfl, h, hm, hu, e.symm⟩, fun z => absurd rfl z⟩
/-- a good rule -/
structure RuleAt (K : PySem.W.Frag) (H : Hp) (r : Addr) (k : Str) (l m o : Int) (u : Addr) (xs : List V) : Prop where
  r : SqT K H r [.str k, .int l, .int m, .int o, .ref u]
  u : SqT K H u xs
  look : Look xs
  k : k = "" ∨ k = "farm" ∨ k = "way" ∨ k = "pond"
  l0 : 0 ≤ l
  lm : l ≤ m
  m6 : m ≤ 6
  o1 : -8 ≤ o
  o2 : o ≤ 8
def RuleE (K : PySem.W.Frag) (H : Hp) (r : Addr) : Prop := ∃ k l m o u xs, RuleAt K H r k l m o u xs
theorem RuleE.same (e : Same H H') (h : RuleE K H a) : RuleE K H' a := by
  obtain ⟨k, l, m, o, u, xs, h⟩ := h
  exact ⟨k, l, m, o, u, xs, { h with r := tSame e h.r, u := tSame e h.u }⟩
theorem RuleE.but {b : Addr} (e : But s H H') (S : Strm H s b) (h : RuleE K H a) : RuleE K H' a := by
  obtain ⟨k, l, m, o, u, xs, h⟩ := h
  exact ⟨k, l, m, o, u, xs, { h with r := tButS e S h.r, u := tButS e S h.u }⟩
theorem RuleE.put (n : ∃ ys, H D = some (.lst ys)) (h : RuleE K H a) : RuleE K (upd H D o) a := by
  obtain ⟨k, l, m, o', u, xs, h⟩ := h
  exact ⟨k, l, m, o', u, xs, { h with r := tAt n h.r, u := tAt n h.u }⟩
theorem all_get {bs : List Bool} : bs.all id = true ↔ ∀ (i : Nat) c, bs[i]? = some c → c = true := by
  constructor
  · intro h i c e
    exact List.all_eq_true.mp h c (List.mem_of_getElem? e)
  · intro h
    rw [List.all_eq_true]
    intro c hc
    obtain ⟨i, e⟩ := List.getElem?_of_mem hc
    exact h i c e
theorem StV.same (e : Same H H') (h : StV K H x b) : StV K H' x b := by
  obtain ⟨n, t, h1, h2⟩ := h
  refine ⟨n, t.same e, fun q => ?_, h2⟩
  obtain ⟨a, xs, bs, e1, e2, e3, e4, e5, e6⟩ := h1 q
  exact ⟨a, xs, bs, e1, tSame e e2, e3, e4, fun i v c f1 f2 => (e5 i v c f1 f2).same e, e6⟩
/-! ## values that stay what they are while a stream is drawn -/
def PB (R : Hp → V → Prop) (s : Addr) (H : Hp) (v : V) : Prop := ∀ H', But s H H' → R H' v
theorem PB.but {R : Hp → V → Prop} (h : PB R s H v) (e : But s H H') : PB R s H' v := fun H2 e2 => h H2 (e.trans e2)
theorem PB.here {R : Hp → V → Prop} (h : PB R s H v) : R H v := h H But.refl
structure BL (R : Hp → V → Prop) (H0 H : Hp) (s b : Addr) (vs : List V) : Prop where
  S : Strm H s b
  e : But s H0 H
  F : ∀ x ∈ vs, PB R s H x
theorem BL.nil {R : Hp → V → Prop} (S : Strm H s p) : BL R H H s p [] := ⟨S, But.refl, fun _ h => by cases h⟩
theorem BL.go {R : Hp → V → Prop} {H0 : Hp} {vs : List V} (h : BL R H0 H s p vs) (e : But s H H') (S : Strm H' s p) : BL R H0 H' s p vs := ⟨S, h.e.trans e, fun x hx => (h.F x hx).but e⟩
theorem BL.step {R : Hp → V → Prop} {H0 : Hp} {vs : List V} (h : BL R H0 H s p vs) (e : Same H H') (n : PB R s H' v) : BL R H0 H' s p (vs ++ [v]) := ⟨h.S.same e, h.e.then_same e, fun x hx => by
  rcases List.mem_append.mp hx with hx | hx
  · exact (h.F x hx).but (But.of_same e)
  · rw [List.mem_singleton] at hx
    subst hx
    exact n⟩
theorem BL.here {R : Hp → V → Prop} {H0 : Hp} {vs : List V} (h : BL R H0 H s p vs) (n : PB R s H v) : BL R H0 H s p (vs ++ [v]) := h.step (Same.refl _) n
theorem BL.over {R : Hp → V → Prop} {H0 : Hp} {vs : List V} {q : Addr} (h : BL R H0 H s p vs) (z : H q = none) : BL R H0 (upd H q o) s p vs := h.go (But.new z) (h.S.over z)
theorem cut_take {n : Nat} : cutV xs none (some (n : Int)) = xs.take n := by
  unfold cutV
  rw [show HT.sIx xs.length 0 none = 0 from rfl, HT.sIx_nat, List.drop_zero, Nat.sub_zero]
  rcases Nat.le_total n xs.length with q | q
  · rw [Nat.min_eq_left q]
  · rw [Nat.min_eq_right q, List.take_of_length_le q, List.take_of_length_le (Nat.le_refl _)]
theorem cut_drop {n : Nat} : cutV xs (some (n : Int)) none = xs.drop n := by
  unfold cutV
  rw [show HT.sIx xs.length xs.length none = xs.length from rfl, HT.sIx_nat]
  rcases Nat.le_total n xs.length with q | q
  · rw [Nat.min_eq_left q, List.take_of_length_le (by rw [List.length_drop]; exact Nat.le_refl _)]
  · rw [Nat.min_eq_right q, List.drop_of_length_le q, List.drop_of_length_le (Nat.le_refl _), List.take_nil]
theorem noPart {σ : L2.St} {k : Option Int → Hp → Prop} (h : k none H) : tNoPart σ H k := h
end
end My
namespace PySem
namespace Ord2
open PySem.W PySem.Calls PyProof.Rows
section
variable {prog : Program} {w : World} {A : Around} {E : Value → Shared → Prop} {s : Shared}
/-- the heap that stood, behind the tuple of the two -/
theorem kept2 {s : Shared} {o : Obj} : ∀ b u, s.heap.get? b = some u → (s.heap.push o).get? b = some u := fun _ _ e => Heap.get?_push_of_some _ e
/-- min(a, b) of two alike data: the first one, unless the second one is less -/
theorem min_two_data {a b : Value} {x y : PyData} {as bs : List Addr} {Q : Value → Shared → Prop} (hA : A.handled = none) (ra : Reads s.heap a x as) (rb : Reads s.heap b y bs) (al : AlikeAll [x, y]) (hu : A.units + 1 + PyData.depthAll [x, y] < cLine)
    (h : ∀ h' tk, (∀ c o, s.heap.get? c = some o → h'.get? c = some o) → Q (if dataLt y x = true then b else a) { s with heap := h', toks := tk }) : wpAny (model prog w) A (call (.builtin "min") [a, b]) Q E s := by
  have nm : (toString "min" ++ toString ".loop" : String) = "min.loop" := by decide
  have hT : (s.heap.push { cls := .type "tuple", data := .seq #[a, b] }).IsTuple s.heap.objs.size #[a, b] := ⟨_, Heap.get?_push_size _ rfl, rfl, 0, rfl⟩
  have rd : ReadsAll (s.heap.push { cls := .type "tuple", data := .seq #[a, b] }) (#[a, b] : Array Value).toList [x, y] (as ++ (bs ++ [])) := .cons (Reads.keeps kept2 ra) (.cons (Reads.keeps kept2 rb) .nil)
  refine call_function_tree F.kind_min F.plain_min F.entry_min (F.args_min2 _ _) ?_
  refine wpAny_bind (wpAny_of_eq (show Builtin.Builtins.bindParams "min" ["key", "default"] 0 ⟨[], []⟩ = pure [none, none] from rfl) ?_); show wpAny _ A.in1 (newTuple [a, b] >>= _) _ _ s
  refine wpAny_bind (wpAny_newObj_type (wpAny_bind (iter_tupleW (A := A.in1) (vs := #[a, b]) hA hT fun s₂ e W st hfp hw hk => ?_)))
  refine wpAny_bind (wpAny_newObj_type ?_)
  have nS : s₂.heap.objs.size ∉ [(s.heap.push { cls := .type "tuple", data := .seq #[a, b] }).objs.size, s.heap.objs.size] := fun hm => Nat.lt_irrefl _ (hfp _ hm)
  rw [nm]
  refine wpAny_pure ⟨plainId_quiet F.plain_min_loop _, codeAny_min_loop_firstH W (s.heap.push { cls := .type "tuple", data := .seq #[a, b] }) hw _ (cmpIn_lt (prog := prog) (w := w) (A := A.in1) (s := { s with heap := s.heap.push { cls := .type "tuple", data := .seq #[a, b] } }) (vs := #[a, b]) rd al (by show A.units + 1 + _ < _; exact hu)) s₂.heap.objs.size nS (fresh_in hk) _ (show 0 < 2 by decide)
    (fun c o q => Heap.get?_push_of_some _ (hk c o q)) (W.frame 0 s₂ _ s₂.toks st (Nat.le_refl _) fun c _ o q => Heap.get?_push_of_some _ q) (Heap.get?_push_size _ rfl) fun v s' hP hm => ?_⟩
  obtain ⟨h', tk, rfl, hk'⟩ := moved_old e rfl (Moved.drop_new (tk := s₂.toks) hm (Nat.le_refl _))
  have q := h h' tk fun c o z => hk' c o (kept2 c o z)
  have best : argBest (fun i j => dataLt (([x, y] : List PyData).getD i .none) (([x, y] : List PyData).getD j .none)) ((#[a, b] : Array Value).size - 1) = if dataLt y x = true then 1 else 0 := rfl
  rw [best] at hP
  by_cases c : dataLt y x = true
  · rw [if_pos c] at hP q
    obtain rfl : b = v := Option.some.inj hP
    exact q
  · rw [if_neg c] at hP q
    obtain rfl : a = v := Option.some.inj hP
    exact q
/-- max(a, b) of two alike data: the first one, unless the second one is greater -/
theorem max_two_data {a b : Value} {x y : PyData} {as bs : List Addr} {Q : Value → Shared → Prop} (hA : A.handled = none) (ra : Reads s.heap a x as) (rb : Reads s.heap b y bs) (al : AlikeAll [x, y]) (hu : A.units + 1 + PyData.depthAll [x, y] < cLine)
    (h : ∀ h' tk, (∀ c o, s.heap.get? c = some o → h'.get? c = some o) → Q (if dataLt x y = true then b else a) { s with heap := h', toks := tk }) : wpAny (model prog w) A (call (.builtin "max") [a, b]) Q E s := by
  have nm : (toString "max" ++ toString ".loop" : String) = "max.loop" := by decide
  have hT : (s.heap.push { cls := .type "tuple", data := .seq #[a, b] }).IsTuple s.heap.objs.size #[a, b] := ⟨_, Heap.get?_push_size _ rfl, rfl, 0, rfl⟩
  have rd : ReadsAll (s.heap.push { cls := .type "tuple", data := .seq #[a, b] }) (#[a, b] : Array Value).toList [x, y] (as ++ (bs ++ [])) := .cons (Reads.keeps kept2 ra) (.cons (Reads.keeps kept2 rb) .nil)
  refine call_function_tree F.kind_max F.plain_max F.entry_max (F.args_max2 _ _) ?_
  refine wpAny_bind (wpAny_of_eq (show Builtin.Builtins.bindParams "max" ["key", "default"] 0 ⟨[], []⟩ = pure [none, none] from rfl) ?_); show wpAny _ A.in1 (newTuple [a, b] >>= _) _ _ s
  refine wpAny_bind (wpAny_newObj_type (wpAny_bind (iter_tupleW (A := A.in1) (vs := #[a, b]) hA hT fun s₂ e W st hfp hw hk => ?_)))
  refine wpAny_bind (wpAny_newObj_type ?_)
  have nS : s₂.heap.objs.size ∉ [(s.heap.push { cls := .type "tuple", data := .seq #[a, b] }).objs.size, s.heap.objs.size] := fun hm => Nat.lt_irrefl _ (hfp _ hm)
  rw [nm]
  refine wpAny_pure ⟨plainId_quiet F.plain_max_loop _, codeAny_max_loop_firstH W (s.heap.push { cls := .type "tuple", data := .seq #[a, b] }) hw _ (cmpIn_gt (prog := prog) (w := w) (A := A.in1) (s := { s with heap := s.heap.push { cls := .type "tuple", data := .seq #[a, b] } }) (vs := #[a, b]) rd al (by show A.units + 1 + _ < _; exact hu)) s₂.heap.objs.size nS (fresh_in hk) _ (show 0 < 2 by decide)
    (fun c o q => Heap.get?_push_of_some _ (hk c o q)) (W.frame 0 s₂ _ s₂.toks st (Nat.le_refl _) fun c _ o q => Heap.get?_push_of_some _ q) (Heap.get?_push_size _ rfl) fun v s' hP hm => ?_⟩
  obtain ⟨h', tk, rfl, hk'⟩ := moved_old e rfl (Moved.drop_new (tk := s₂.toks) hm (Nat.le_refl _))
  have q := h h' tk fun c o z => hk' c o (kept2 c o z)
  have best : argBest (fun i j => dataLt (([x, y] : List PyData).getD j .none) (([x, y] : List PyData).getD i .none)) ((#[a, b] : Array Value).size - 1) = if dataLt x y = true then 1 else 0 := rfl
  rw [best] at hP
  by_cases c : dataLt x y = true
  · rw [if_pos c] at hP q
    obtain rfl : b = v := Option.some.inj hP
    exact q
  · rw [if_neg c] at hP q
    obtain rfl : a = v := Option.some.inj hP
    exact q
end
end Ord2
end PySem
namespace My
open PySem L2
/-- the order of points -/
def ltP (ax ay bx dy : Int) : Bool := decide (ax < bx ∨ (ax = bx ∧ ay < dy))
theorem OpR.of {X : Cx} {f : Value → Value → Sem Value} {r r' : R2} (h : OpR X f r) (w : ∀ x y H Q, r' x y H Q → r x y H Q) : OpR X f r' := by
  intro pins s σ H x y v u Q I rx ry q
  exact h pins s σ H x y v u Q I rx ry (w x y H Q q)
def pD (x y : Int) : PyData := .tuple [.int x, .int y]
theorem dP {K : PySem.W.Frag} {H : Hp} {a : Addr} {x y : Int} (h : SqT K H a [.int x, .int y]) : Dp K H (.ref a) (pD x y) := .tup h (.cons (.int _) (.cons (.int _) .nil))
theorem alikeP (ax ay bx dy : Int) : PySem.W.AlikeAll [pD ax ay, pD bx dy] := by
  unfold PySem.W.AlikeAll pD
  simp [PySem.W.alike, PySem.W.alikeAll]
theorem depthP (ax ay bx dy : Int) : PyData.depthAll [pD ax ay, pD bx dy] ≤ 8 := by
  unfold pD
  simp [PyData.depthAll, PyData.depth]
/-- two points, what is asked of a function of their numbers -/
def rPP (K : PySem.W.Frag) (f : Int → Int → Int → Int → V) : R2 := fun x y H Q => ∃ (a b : Addr) (ax ay bx dy : Int), x = .ref a ∧ y = .ref b ∧ SqT K H a [.int ax, .int ay] ∧ SqT K H b [.int bx, .int dy] ∧ Q (f ax ay bx dy) H
theorem lexLt2 (ax ay bx dy : Int) : HT.lexLt [ax, ay] [bx, dy] = ltP ax ay bx dy := by
  unfold ltP HT.lexLt HT.lexLt HT.lexLt
  by_cases h : ax = bx
  · subst h
    rw [if_pos rfl]
    by_cases g : ay = dy
    · subst g; rw [if_pos rfl]; simp
    · rw [if_neg g]; simp
  · rw [if_neg h]; simp [h]
theorem op_ltP {X : Cx} (hu : X.A.units < cLine) : OpR X (compareOp .Lt) (rPP X.K fun ax ay bx dy => .bl (ltP ax ay bx dy)) :=
  OpR.of (op_ltT hu) fun x y H Q ⟨a, b, ax, ay, bx, dy, e1, e2, ha, hb, q⟩ => ⟨a, b, [ax, ay], [bx, dy], e1, e2, ha, hb, by rw [lexLt2]; exact q⟩
theorem op_leP {X : Cx} (hu : X.A.units < cLine) : OpR X (compareOp .LtE) (rPP X.K fun ax ay bx dy => .bl (!ltP bx dy ax ay)) :=
  OpR.of (op_leT hu) fun x y H Q ⟨a, b, ax, ay, bx, dy, e1, e2, ha, hb, q⟩ => ⟨a, b, [ax, ay], [bx, dy], e1, e2, ha, hb, by
    have e : Ob.lexAt (fun j => decide (([ax, ay] : List Int).getD j 0 = ([bx, dy] : List Int).getD j 0)) (fun j => decide (([ax, ay] : List Int).getD j 0 ≤ ([bx, dy] : List Int).getD j 0)) (decide (([ax, ay] : List Int).length ≤ ([bx, dy] : List Int).length)) 0 (min ([ax, ay] : List Int).length ([bx, dy] : List Int).length) = !ltP bx dy ax ay := by
      show (if decide (ax = bx) = true then (if decide (ay = dy) = true then true else decide (ay ≤ dy)) else decide (ax ≤ bx)) = _
      unfold ltP
      by_cases h : ax = bx
      · subst h
        by_cases g : ay = dy
        · subst g; simp
        · have : decide (ay ≤ dy) = !decide (dy < ay) := by
            by_cases z : ay ≤ dy
            · rw [decide_eq_true z, decide_eq_false (by omega)]; rfl
            · rw [decide_eq_false z, decide_eq_true (by omega)]; rfl
          simp [g, this]
      · by_cases z : ax ≤ bx
        · have : ¬ bx < ax := by omega
          have h2 : ¬ bx = ax := fun e => h e.symm
          simp [h, z, this, h2]
        · have : bx < ax := by omega
          simp [h, z, this]
    rw [e]; exact q⟩
theorem eqvP (ax ay bx dy : Int) : PyData.eqv (pD ax ay) (pD bx dy) = decide (ax = bx ∧ ay = dy) := by
  unfold pD
  simp [PyData.eqv, PyData.eqvAll]
  by_cases h : ax = bx <;> by_cases g : ay = dy <;> simp [h, g]
theorem op_eqP {X : Cx} (hu : X.A.units + 64 < cLine) : OpR X (compareOp .Eq) (rPP X.K fun ax ay bx dy => .bl (decide (ax = bx ∧ ay = dy))) :=
  OpR.of (op_eqD hu) fun x y H Q ⟨a, b, ax, ay, bx, dy, e1, e2, ha, hb, q⟩ => by subst e1 e2; exact ⟨_, _, dP ha, dP hb, rfl, rfl, by rw [eqvP]; exact q⟩
/-- min, max of two points -/
def rMM (K : PySem.W.Frag) (f : Int → Int → Int → Int → Bool) : List V → Hp → VK → Prop := fun xs H Q => ∃ (a b : Addr) (ax ay bx dy : Int), xs = [.ref a, .ref b] ∧ SqT K H a [.int ax, .int ay] ∧ SqT K H b [.int bx, .int dy] ∧
  Q (.ref (if f ax ay bx dy = true then b else a)) H
theorem call_minP {X : Cx} (hc : X.calm = true) (hu : X.A.units + 64 < cLine) : CallR X (.builtin "min") (rMM X.K fun ax ay bx dy => ltP bx dy ax ay) := by
  intro pins s σ H xs us Q I r h
  obtain ⟨a, b, ax, ay, bx, dy, rfl, ha, hb, q⟩ := h
  obtain ⟨u, v, rfl, ru, rv⟩ := vals2 r
  obtain rfl : u = Value.ref a := ru
  obtain rfl : v = Value.ref b := rv
  obtain ⟨as, r1⟩ := Dp.reads I _ _ (.ref a) (dP ha) rfl
  obtain ⟨bs, r2⟩ := Dp.reads I _ _ (.ref b) (dP hb) rfl
  refine Ord2.min_two_data (I.ok.hd hc) r1 r2 (alikeP ..) (by have := depthP ax ay bx dy; omega) fun h' tk k => ⟨_, H, I.kept k, ?_, q⟩
  show _ = Value.ref _
  rw [show PySem.W.dataLt (pD bx dy) (pD ax ay) = ltP bx dy ax ay from PySem.W.dataLt_ii ..]
  split <;> rfl
theorem call_maxP {X : Cx} (hc : X.calm = true) (hu : X.A.units + 64 < cLine) : CallR X (.builtin "max") (rMM X.K fun ax ay bx dy => ltP ax ay bx dy) := by
  intro pins s σ H xs us Q I r h
  obtain ⟨a, b, ax, ay, bx, dy, rfl, ha, hb, q⟩ := h
  obtain ⟨u, v, rfl, ru, rv⟩ := vals2 r
  obtain rfl : u = Value.ref a := ru
  obtain rfl : v = Value.ref b := rv
  obtain ⟨as, r1⟩ := Dp.reads I _ _ (.ref a) (dP ha) rfl
  obtain ⟨bs, r2⟩ := Dp.reads I _ _ (.ref b) (dP hb) rfl
  refine Ord2.max_two_data (I.ok.hd hc) r1 r2 (alikeP ..) (by have := depthP ax ay bx dy; omega) fun h' tk k => ⟨_, H, I.kept k, ?_, q⟩
  show _ = Value.ref _
  rw [show PySem.W.dataLt (pD ax ay) (pD bx dy) = ltP ax ay bx dy from PySem.W.dataLt_ii ..]
  split <;> rfl
end My
namespace My
/-! ## a point and a segment: v from end to end, u from the first end to the point -/
/-- how far the point is from the place n / d of the way, times d, squared -/
def gapN (ux uy vx vy n d : Int) : Int := (ux * d - n * vx) * (ux * d - n * vx) + (uy * d - n * vy) * (uy * d - n * vy)
def sq (vx vy : Int) : Int := vx * vx + vy * vy
def dot (ux uy vx vy : Int) : Int := ux * vx + uy * vy
def crs (ux uy vx vy : Int) : Int := vx * uy - vy * ux
def clamp (al s : Int) : Int := if s < (if 0 > al then 0 else al) then s else (if 0 > al then 0 else al)
theorem sq_nn (x : Int) : 0 ≤ x * x := by
  rcases Int.le_total 0 x with h | h
  · exact Int.mul_nonneg h h
  · exact Int.mul_nonneg_of_nonpos_of_nonpos h h
theorem sq_pos {vx vy : Int} (h : vx ≠ 0 ∨ vy ≠ 0) : 0 < sq vx vy := by
  unfold sq
  have a := sq_nn vx
  have b := sq_nn vy
  rcases h with h | h
  · have : vx * vx ≠ 0 := Int.mul_ne_zero h h
    omega
  · have : vy * vy ≠ 0 := Int.mul_ne_zero h h
    omega
/-! ### on the segment -/
/-- by the order of points -/
def onB (ux uy vx vy : Int) : Bool := decide (crs ux uy vx vy = 0) && (!ltP ux uy 0 0 && !ltP vx vy ux uy)
/-- by the ranges -/
def boxB (ux uy vx vy : Int) : Bool := decide (crs ux uy vx vy = 0) && ((decide ((if vx < 0 then vx else 0) ≤ ux) && decide (ux ≤ (if vx > 0 then vx else 0))) && (decide ((if vy < 0 then vy else 0) ≤ uy) && decide (uy ≤ (if vy > 0 then vy else 0))))
/-- on the line: between the ends exactly if the product is -/
theorem on_line {ux uy vx vy : Int} (hl : ltP 0 0 vx vy = true) (ht : crs ux uy vx vy = 0) :
    ((!ltP ux uy 0 0 && !ltP vx vy ux uy) = true ↔ 0 ≤ dot ux uy vx vy ∧ dot ux uy vx vy ≤ sq vx vy) ∧
    (((decide ((if vx < 0 then vx else 0) ≤ ux) && decide (ux ≤ (if vx > 0 then vx else 0))) && (decide ((if vy < 0 then vy else 0) ≤ uy) && decide (uy ≤ (if vy > 0 then vy else 0)))) = true ↔ 0 ≤ dot ux uy vx vy ∧ dot ux uy vx vy ≤ sq vx vy) := by
  have hv : 0 < vx ∨ (0 = vx ∧ 0 < vy) := of_decide_eq_true hl
  have ht : vx * uy = vy * ux := by unfold crs at ht; omega
  have hs : 0 < sq vx vy := sq_pos (by omega)
  rcases hv with hv | ⟨rfl, hv⟩
  · -- it goes to the right
    have e : sq vx vy * ux = dot ux uy vx vy * vx := by
      unfold sq dot
      have : vy * (vx * uy) = vy * (vy * ux) := by rw [ht]
      grind
    have k1 : 0 ≤ dot ux uy vx vy ↔ 0 ≤ ux := by
      constructor
      · intro h
        have := Int.mul_nonneg h (Int.le_of_lt hv)
        rw [← e] at this
        exact Int.nonneg_of_mul_nonneg_right this hs
      · intro h
        have := Int.mul_nonneg (Int.le_of_lt hs) h
        rw [e] at this
        exact Int.nonneg_of_mul_nonneg_left this hv
    have k2 : dot ux uy vx vy ≤ sq vx vy ↔ ux ≤ vx := by
      constructor
      · intro h
        have := Int.mul_le_mul_of_nonneg_right h (Int.le_of_lt hv)
        rw [← e] at this
        exact Int.le_of_mul_le_mul_left this hs
      · intro h
        have := Int.mul_le_mul_of_nonneg_left h (Int.le_of_lt hs)
        rw [e] at this
        exact Int.le_of_mul_le_mul_right this hv
    rw [k1, k2]
    have z0 : ux = 0 → uy = 0 := fun z => by
      rw [z, Int.mul_zero] at ht
      rcases Int.mul_eq_zero.mp ht with q | q <;> omega
    have z1 : ux = vx → uy = vy := fun z => by
      rw [z, Int.mul_comm vy vx] at ht
      exact Int.eq_of_mul_eq_mul_left (by omega) ht
    refine ⟨?_, ?_⟩
    · unfold ltP
      simp only [Bool.and_eq_true, Bool.not_eq_true', decide_eq_false_iff_not]
      omega
    · simp only [Bool.and_eq_true, decide_eq_true_eq]
      constructor
      · rintro ⟨⟨h1, h2⟩, _⟩
        rw [if_neg (by omega)] at h1
        rw [if_pos (by omega)] at h2
        exact ⟨h1, h2⟩
      · rintro ⟨h1, h2⟩
        refine ⟨⟨by rw [if_neg (by omega)]; exact h1, by rw [if_pos (by omega)]; exact h2⟩, ?_⟩
        rcases Int.lt_trichotomy vy 0 with y | y | y
        · have a1 : vy * ux ≤ 0 := Int.mul_nonpos_of_nonpos_of_nonneg (by omega) h1
          have a2 : vy * vx ≤ vy * ux := Int.mul_le_mul_of_nonpos_left (by omega) h2
          have a3 : uy ≤ 0 := by
            rcases Int.le_total uy 0 with q | q
            · exact q
            · rcases Int.lt_or_le 0 uy with r | r
              · have := Int.mul_pos hv r; omega
              · exact r
          have a4 : vy ≤ uy := by
            have : vx * vy ≤ vx * uy := by rw [ht, Int.mul_comm vx vy]; exact a2
            exact Int.le_of_mul_le_mul_left this hv
          rw [if_pos y, if_neg (by omega)]
          exact ⟨a4, a3⟩
        · have : uy = 0 := by
            rw [y, Int.zero_mul] at ht
            rcases Int.mul_eq_zero.mp ht with q | q <;> omega
          rw [if_neg (by omega), if_neg (by omega)]
          omega
        · have a1 : 0 ≤ vy * ux := Int.mul_nonneg (by omega) h1
          have a2 : vy * ux ≤ vy * vx := Int.mul_le_mul_of_nonneg_left h2 (by omega)
          have a3 : 0 ≤ uy := by
            rcases Int.lt_or_le uy 0 with r | r
            · have := Int.mul_neg_of_pos_of_neg hv r; omega
            · exact r
          have a4 : uy ≤ vy := by
            have : vx * uy ≤ vx * vy := by rw [ht, Int.mul_comm vx vy]; exact a2
            exact Int.le_of_mul_le_mul_left this hv
          rw [if_neg (by omega), if_pos y]
          exact ⟨a3, a4⟩
  · -- it goes up
    have u0 : ux = 0 := by
      rw [Int.zero_mul] at ht
      rcases Int.mul_eq_zero.mp ht.symm with q | q <;> omega
    subst u0
    have d1 : dot 0 uy 0 vy = uy * vy := by unfold dot; omega
    have d2 : sq 0 vy = vy * vy := by unfold sq; omega
    rw [d1, d2]
    have k1 : 0 ≤ uy * vy ↔ 0 ≤ uy := by
      constructor
      · intro h; exact Int.nonneg_of_mul_nonneg_left h hv
      · intro h; exact Int.mul_nonneg h (by omega)
    have k2 : uy * vy ≤ vy * vy ↔ uy ≤ vy := by
      constructor
      · intro h; exact Int.le_of_mul_le_mul_right h hv
      · intro h; exact Int.mul_le_mul_of_nonneg_right h (by omega)
    rw [k1, k2]
    refine ⟨?_, ?_⟩
    · clear k1 k2 d1 d2 hs
      unfold ltP
      simp only [Bool.and_eq_true, Bool.not_eq_true', decide_eq_false_iff_not]
      simp only [true_and]
      omega
    · simp only [Bool.and_eq_true, decide_eq_true_eq]
      rw [if_neg (show ¬ vy < 0 by omega), if_pos (show vy > 0 by omega)]
      simp
theorem on_same {ux uy vx vy : Int} (hv : ltP 0 0 vx vy = true) : onB ux uy vx vy = boxB ux uy vx vy := by
  unfold onB boxB
  by_cases ht : crs ux uy vx vy = 0
  · obtain ⟨k1, k2⟩ := on_line hv ht
    rw [decide_eq_true ht, Bool.true_and, Bool.true_and]
    exact Bool.eq_iff_iff.mpr (k1.trans k2.symm)
  · rw [decide_eq_false ht, Bool.false_and, Bool.false_and]
end My
namespace My
open PySem L2
theorem ltP_sub (ax ay bx dy cx cy : Int) : ltP (ax - cx) (ay - cy) (bx - cx) (dy - cy) = ltP ax ay bx dy := by
  unfold ltP
  exact decide_eq_decide.mpr (by omega)
theorem ltP_sub0 (ax ay cx cy : Int) : ltP (ax - cx) (ay - cy) 0 0 = ltP ax ay cx cy := by
  unfold ltP
  exact decide_eq_decide.mpr (by omega)
theorem ltP_0sub (ax ay cx cy : Int) : ltP 0 0 (ax - cx) (ay - cy) = ltP cx cy ax ay := by
  unfold ltP
  exact decide_eq_decide.mpr (by omega)
/-- on the segment, told by the program -/
def onI (ax ay bx dy px py : Int) : Bool := decide (turnI ax ay bx dy px py = 0) && (!ltP px py ax ay && !ltP bx dy px py)
/-- on the segment, told by the law -/
def boxI (ax ay bx dy px py : Int) : Bool := decide (turnI ax ay bx dy px py = 0) && ((decide ((if bx < ax then bx else ax) ≤ px) && decide (px ≤ (if bx > ax then bx else ax))) && (decide ((if dy < ay then dy else ay) ≤ py) && decide (py ≤ (if dy > ay then dy else ay))))
theorem onI_B (ax ay bx dy px py : Int) : onI ax ay bx dy px py = onB (px - ax) (py - ay) (bx - ax) (dy - ay) := by
  unfold onI onB
  rw [ltP_sub0, ltP_sub]
  rfl
theorem boxI_B (ax ay bx dy px py : Int) : boxI ax ay bx dy px py = boxB (px - ax) (py - ay) (bx - ax) (dy - ay) := by
  have e1 : ∀ a b p : Int, decide ((if b < a then b else a) ≤ p) = decide ((if b - a < 0 then b - a else 0) ≤ p - a) := fun a b p => decide_eq_decide.mpr (by split <;> split <;> omega)
  have e2 : ∀ a b p : Int, decide (p ≤ (if b > a then b else a)) = decide (p - a ≤ (if b - a > 0 then b - a else 0)) := fun a b p => decide_eq_decide.mpr (by split <;> split <;> omega)
  unfold boxI boxB
  rw [e1 ax bx px, e2 ax bx px, e1 ay dy py, e2 ay dy py]
  rfl
theorem onI_box {ax ay bx dy px py : Int} (h : ltP ax ay bx dy = true) : onI ax ay bx dy px py = boxI ax ay bx dy px py := by
  rw [onI_B, boxI_B]
  exact on_same (by rw [ltP_0sub]; exact h)
/-- the numbers of a point of the map, from another one -/
theorem On.d {ax ay px py : Int} (h : On px py) (g : On ax ay) : ((px - ax).natAbs ≤ 2 ^ 11 ∧ (py - ay).natAbs ≤ 2 ^ 11) := by unfold On at h g; omega
theorem sq_le {vx vy : Int} (h : vx.natAbs ≤ 2 ^ 11 ∧ vy.natAbs ≤ 2 ^ 11) : (sq vx vy).natAbs ≤ 2 ^ 23 := add_le (mul_le h.1 h.1) (mul_le h.2 h.2)
theorem dot_le {ux uy vx vy : Int} (h : ux.natAbs ≤ 2 ^ 11 ∧ uy.natAbs ≤ 2 ^ 11) (g : vx.natAbs ≤ 2 ^ 11 ∧ vy.natAbs ≤ 2 ^ 11) : (dot ux uy vx vy).natAbs ≤ 2 ^ 23 := add_le (mul_le h.1 g.1) (mul_le h.2 g.2)
theorem clamp_le {al s : Int} (h : al.natAbs ≤ 2 ^ 23) (g : s.natAbs ≤ 2 ^ 23) : (clamp al s).natAbs ≤ 2 ^ 23 := by
  unfold clamp
  split <;> split at * <;> omega
theorem gap_le {ux uy vx vy n d : Int} (h : ux.natAbs ≤ 2 ^ 11 ∧ uy.natAbs ≤ 2 ^ 11) (g : vx.natAbs ≤ 2 ^ 11 ∧ vy.natAbs ≤ 2 ^ 11) (hn : n.natAbs ≤ 2 ^ 23) (hd : d.natAbs ≤ 2 ^ 23) :
    (ux * d - n * vx).natAbs ≤ 2 ^ 35 ∧ (uy * d - n * vy).natAbs ≤ 2 ^ 35 ∧ (gapN ux uy vx vy n d).natAbs ≤ 2 ^ 71 := by
  have e1 : (ux * d - n * vx).natAbs ≤ 2 ^ 35 := sub_le (x := 34) (mul_le (x := 11) (y := 23) h.1 hd) (mul_le (x := 23) (y := 11) hn g.1)
  have e2 : (uy * d - n * vy).natAbs ≤ 2 ^ 35 := sub_le (x := 34) (mul_le (x := 11) (y := 23) h.2 hd) (mul_le (x := 23) (y := 11) hn g.2)
  exact ⟨e1, e2, add_le (x := 70) (mul_le (x := 35) (y := 35) e1 e1) (mul_le (x := 35) (y := 35) e2 e2)⟩
theorem m64 {i : Int} {x : Nat} (h : i.natAbs ≤ 2 ^ x) (hx : x ≤ 63 := by decide) : -(2 ^ 64) < i ∧ i < 2 ^ 64 := by
  have : i.natAbs ≤ 2 ^ 63 := Nat.le_trans h (Nat.pow_le_pow_right (by decide) hx)
  omega
/-- a segment at an address -/
structure SegAt (K : PySem.W.Frag) (H : Hp) (g a c : Addr) (ax ay bx dy : Int) : Prop where
  g : SqT K H g [.ref a, .ref c]
  a : SqT K H a [.int ax, .int ay]
  c : SqT K H c [.int bx, .int dy]
  oa : On ax ay
  oc : On bx dy
  lt : ltP ax ay bx dy = true
theorem SegAt.same {K : PySem.W.Frag} {H H' : Hp} {g a c : Addr} {ax ay bx dy : Int} (e : Same H H') (h : SegAt K H g a c ax ay bx dy) : SegAt K H' g a c ax ay bx dy := { h with g := tSame e h.g, a := tSame e h.a, c := tSame e h.c }
theorem SegAt.but {K : PySem.W.Frag} {H H' : Hp} {s b g a c : Addr} {ax ay bx dy : Int} (e : But s H H') (S : Strm H s b) (h : SegAt K H g a c ax ay bx dy) : SegAt K H' g a c ax ay bx dy := { h with g := tButS e S h.g, a := tButS e S h.a, c := tButS e S h.c }
end My
namespace My
open PySem L2
theorem three_get {α : Type} {P : α → α → Prop} {a b c x y z : α} (h0 : P a x) (h1 : P b y) (h2 : P c z) : ∀ (i : Nat) u v, [a, b, c][i]? = some u → [x, y, z][i]? = some v → P u v := by
  intro i u v hu hv
  rcases (show i = 0 ∨ i = 1 ∨ i = 2 by have := (List.getElem?_eq_some_iff.mp hu).1; simp at this; omega) with rfl | rfl | rfl
  · cases hu; cases hv; exact h0
  · cases hu; cases hv; exact h1
  · cases hu; cases hv; exact h2
end My
namespace My
open PySem L2
/-! ## the rest of the order of points: >, sorted -/
theorem op_gtP {X : Cx} (hu : X.A.units + 64 < cLine) : OpR X (compareOp .Gt) (rPP X.K fun ax ay bx dy => .bl (ltP bx dy ax ay)) := by
  intro pins s σ H x y v u Q I rx ry h
  obtain ⟨a, b, ax, ay, bx, dy, rfl, rfl, ha, hb, q⟩ := h
  obtain ⟨as, r1⟩ := Dp.reads I _ _ _ (dP ha) rx
  obtain ⟨bs, r2⟩ := Dp.reads I _ _ _ (dP hb) ry
  have al : PySem.W.alike (pD ax ay) (pD bx dy) = true := by
    unfold pD
    simp [PySem.W.alike, PySem.W.alikeAll]
  have hd : min (pD ax ay).depth (pD bx dy).depth ≤ 8 := by
    unfold pD
    simp [PyData.depthAll, PyData.depth]
  refine PySem.W.gt_data r1 r2 al (fun e => by cases e) (by omega) ⟨.bl _, H, I, rfl, ?_⟩
  rw [show PySem.W.dataLt (pD bx dy) (pD ax ay) = ltP bx dy ax ay from PySem.W.dataLt_ii ..]
  exact q
abbrev Pn := Addr × Int × Int
def pnD (b : Pn) : PyData := pD b.2.1 b.2.2
def pnV (b : Pn) : V := .ref b.1
/-- sorted(xs), xs a list of pairs of whole numbers -/
def rSortP (K : PySem.W.Frag) : List V → Hp → VK → Prop := fun vs H Q => ∃ (a : Addr) (bs : List Pn), vs = [V.ref a] ∧ SqL K H a (bs.map pnV) ∧ (∀ b ∈ bs, SqT K H b.1 [.int b.2.1, .int b.2.2]) ∧
  ∀ p, H p = none → Q (.ref p) (upd H p (.lst ((bs.mergeSort fun p q => decide (p.2.1 < q.2.1 ∨ (p.2.1 = q.2.1 ∧ p.2.2 ≤ q.2.2))).map pnV)))
theorem each_of_vals {R : Value → Pn → Prop} : ∀ {bs : List Pn} {us : List Value}, Vals (bs.map pnV) us → (∀ b ∈ bs, R (.ref b.1) b) → PySem.W.EachIs R us bs
  | [], _, .nil, _ => .nil
  | b :: bs, _, .cons r t, h => by
    have e : _ = Value.ref b.1 := r
    subst e
    exact .cons (h b List.mem_cons_self) (each_of_vals t fun x hx => h x (List.mem_cons_of_mem _ hx))
theorem vals_of_each : ∀ {bs : List Pn} {us : List Value}, PySem.W.EachIs (fun v b => v = Value.ref b.1) us bs → Vals (bs.map pnV) us
  | _, _, .nil => .nil
  | _, _, .cons e t => by
    subst e
    exact .cons (show RelV (.ref _) (.ref _) from rfl) (vals_of_each t)
theorem cr_sortP {X : Cx} (hu : X.A.units + 64 < cLine) : CallR X (.builtin "sorted") (rSortP X.K) := by
  intro pins s σ H vs us Q I r h
  obtain ⟨a, bs, rfl, hs, hb, q⟩ := h
  obtain ⟨its, rv, hl, hz⟩ := I.list hs
  rw [Vals.ref1 r]
  have hlen : bs.length ≤ sizeLine := by rwa [List.length_map] at hz
  have e1 : PySem.W.EachIs (fun v b => v = Value.ref b.1) its bs := each_of_vals rv fun b _ => rfl
  have e2 : PySem.W.EachIs (fun v b => ∃ as, Reads s.heap v (pnD b) as) its bs := each_of_vals rv fun b m => Dp.reads I _ (.ref b.1) _ (dP (hb b m)) rfl
  refine PySem.W.sorted_data (enc := pnD) hl.isList e1 e2 (PySem.W.AllAlike.of fun b b' => ?_) (PySem.W.Sortable.tuples fun b => ⟨_, _, rfl⟩) hlen (fun b _ => ?_) fun out ho eo => ?_
  · unfold pnD pD
    simp [PySem.W.alike, PySem.W.alikeAll]
  · have : (pnD b).depth ≤ 8 := by
      unfold pnD pD
      simp [PyData.depthAll, PyData.depth]
    omega
  · rw [show PySem.W.dataLe false pnD = fun p q : Pn => decide (p.2.1 < q.2.1 ∨ (p.2.1 = q.2.1 ∧ p.2.2 ≤ q.2.2)) from PySem.W.dataLe_ii (fun b : Pn => b.2.1) (fun b : Pn => b.2.2)] at eo
    have rv2 := vals_of_each eo
    have hp := I.hok.fresh (Nat.le_succ s.heap.objs.size)
    obtain ⟨ep, he'⟩ := PyProof.Rows.sortedAll_at s.heap its out.toArray
    refine ⟨.ref _, upd H (s.heap.objs.size + 1) (.lst _), I.laid (t' := s.toks) (fun _ _ => PyProof.Rows.sortedAll_old) (Nat.le_succ _) ⟨?_, out, ep, rv2, he'⟩, rfl, q _ hp⟩
    rw [List.length_map, List.length_mergeSort]
    exact hlen
/-- what it is -/
theorem sortP_perm (bs : List Pn) : (bs.mergeSort fun p q => decide (p.2.1 < q.2.1 ∨ (p.2.1 = q.2.1 ∧ p.2.2 ≤ q.2.2))).Perm bs := List.mergeSort_perm _ _
theorem sortP_le (bs : List Pn) : (bs.mergeSort fun p q => decide (p.2.1 < q.2.1 ∨ (p.2.1 = q.2.1 ∧ p.2.2 ≤ q.2.2))).Pairwise fun p q => ltP q.2.1 q.2.2 p.2.1 p.2.2 = false := by
  have h := List.pairwise_mergeSort (le := fun p q : Pn => decide (p.2.1 < q.2.1 ∨ (p.2.1 = q.2.1 ∧ p.2.2 ≤ q.2.2)))
    (fun a b c h1 h2 => by have := of_decide_eq_true h1; have := of_decide_eq_true h2; exact decide_eq_true (by omega))
    (fun a b => by simp only [Bool.or_eq_true, decide_eq_true_eq]; omega) bs
  refine h.imp fun {a b} h => decide_eq_false ?_
  have := of_decide_eq_true h
  omega
end My
namespace My
/-! ## how two segments meet: points as pairs -/
abbrev Pt := Int × Int
def tn (a b c : Pt) : Int := turnI a.1 a.2 b.1 b.2 c.1 c.2
def lt (a b : Pt) : Bool := ltP a.1 a.2 b.1 b.2
def on (p a b : Pt) : Bool := onI a.1 a.2 b.1 b.2 p.1 p.2
def box (p a b : Pt) : Bool := boxI a.1 a.2 b.1 b.2 p.1 p.2
theorem lt_iff {a b : Pt} : lt a b = true ↔ (a.1 < b.1 ∨ (a.1 = b.1 ∧ a.2 < b.2)) := by unfold lt ltP; rw [decide_eq_true_eq]
theorem lt_no {a b : Pt} : lt a b = false ↔ ¬ (a.1 < b.1 ∨ (a.1 = b.1 ∧ a.2 < b.2)) := by unfold lt ltP; rw [decide_eq_false_iff_not]
theorem pt_eq {a b : Pt} (h1 : a.1 = b.1) (h2 : a.2 = b.2) : a = b := Prod.ext h1 h2
theorem lt_trans {a b c : Pt} (h : lt a b = true) (g : lt b c = true) : lt a c = true := by rw [lt_iff] at *; omega
theorem lt_irr (a : Pt) : lt a a = false := by rw [lt_no]; omega
theorem lt_tri {a b : Pt} (h : lt a b = false) (g : lt b a = false) : a = b := by
  rw [lt_no] at h g
  exact pt_eq (by omega) (by omega)
theorem le_trans {a b c : Pt} (h : lt b a = false) (g : lt c b = false) : lt c a = false := by rw [lt_no] at *; omega
theorem lt_le {a b : Pt} (h : lt a b = true) : lt b a = false := by rw [lt_iff] at h; rw [lt_no]; omega
theorem on_box {p a b : Pt} (h : lt a b = true) : on p a b = box p a b := onI_box h
theorem on_iff {p a b : Pt} : on p a b = true ↔ tn a b p = 0 ∧ lt p a = false ∧ lt b p = false := by
  unfold on onI tn lt
  simp only [Bool.and_eq_true, decide_eq_true_eq, Bool.not_eq_true']
theorem tn_a (a b : Pt) : tn a b a = 0 := by unfold tn turnI; grind
theorem tn_b (a b : Pt) : tn a b b = 0 := by unfold tn turnI; grind
theorem on_a {a b : Pt} (h : lt a b = true) : on a a b = true := on_iff.mpr ⟨tn_a a b, lt_irr a, lt_le h⟩
theorem on_b {a b : Pt} (h : lt a b = true) : on b a b = true := on_iff.mpr ⟨tn_b a b, lt_le h, lt_irr b⟩
/-- the four turns -/
theorem tn_four (a b c d : Pt) : tn c d a - tn c d b = tn a b d - tn a b c := by unfold tn turnI; grind
/-- where the lines meet, told from both -/
theorem tn_x (a b c d : Pt) : tn c d a * b.1 - tn c d b * a.1 = tn a b d * c.1 - tn a b c * d.1 := by unfold tn turnI; grind
theorem tn_y (a b c d : Pt) : tn c d a * b.2 - tn c d b * a.2 = tn a b d * c.2 - tn a b c * d.2 := by unfold tn turnI; grind
/-- a turn of a point, by its shift along -/
theorem tn_sub (a b p q : Pt) : tn a b p - tn a b q = (b.1 - a.1) * (p.2 - q.2) - (b.2 - a.2) * (p.1 - q.1) := by unfold tn turnI; grind
theorem tn_shift {a b c d : Pt} (hab : lt a b = true) (h1 : tn c d a = 0) (h2 : tn c d b = 0) : (b.1 - a.1) * (d.2 - c.2) = (b.2 - a.2) * (d.1 - c.1) := by
  have := tn_sub c d a b
  rw [h1, h2] at this
  grind
/-- two vectors along a third one that is not 0 -/
theorem par {x y u v w z : Int} (hn : x ≠ 0 ∨ y ≠ 0) (h1 : x * v = y * u) (h2 : x * z = y * w) : u * z = v * w := by
  rcases hn with hn | hn
  · have : x * (u * z) = x * (v * w) := by
      have e1 : x * (u * z) = u * (y * w) := by rw [← h2]; grind
      have e2 : x * (v * w) = w * (y * u) := by rw [← h1]; grind
      rw [e1, e2]; grind
    exact Int.eq_of_mul_eq_mul_left hn this
  · have : y * (u * z) = y * (v * w) := by
      have e1 : y * (u * z) = z * (x * v) := by rw [h1]; grind
      have e2 : y * (v * w) = v * (x * z) := by rw [h2]; grind
      rw [e1, e2]; grind
    exact Int.eq_of_mul_eq_mul_left hn this
theorem lt_vec {a b : Pt} (h : lt a b = true) : b.1 - a.1 ≠ 0 ∨ b.2 - a.2 ≠ 0 := by rw [lt_iff] at h; omega
theorem ne_vec {a b : Pt} (h : a ≠ b) : b.1 - a.1 ≠ 0 ∨ b.2 - a.2 ≠ 0 := by
  by_cases h1 : b.1 - a.1 = 0
  · by_cases h2 : b.2 - a.2 = 0
    · exact absurd (pt_eq (by omega) (by omega)) h
    · exact .inr h2
  · exact .inl h1
/-- the ends of one segment on the line of the other: then the other's on its line -/
theorem line_sym {a b c d : Pt} (hab : lt a b = true) (hcd : lt c d = true) (h1 : tn c d a = 0) (h2 : tn c d b = 0) : tn a b c = 0 ∧ tn a b d = 0 := by
  have s := tn_shift hab h1 h2
  have w := lt_vec hcd
  have e1 : (d.1 - c.1) * (a.2 - c.2) = (d.2 - c.2) * (a.1 - c.1) := by
    have := tn_sub c d a c
    rw [h1, tn_a] at this
    omega
  have e2 : (d.1 - c.1) * (b.2 - a.2) = (d.2 - c.2) * (b.1 - a.1) := by grind
  have p := par w e1 e2
  have c0 : tn a b c = 0 := by
    have := tn_sub a b c a
    rw [tn_a] at this
    grind
  have f := tn_four a b c d
  rw [h1, h2] at f
  exact ⟨c0, by omega⟩
/-- two common points of two lines: one line -/
theorem two_points {a b c d p q : Pt} (hab : lt a b = true) (hcd : lt c d = true) (hp : tn a b p = 0) (hq : tn a b q = 0) (gp : tn c d p = 0) (gq : tn c d q = 0) (n : p ≠ q) : tn c d a = 0 ∧ tn c d b = 0 := by
  have v := lt_vec hab
  have k := ne_vec n
  have e1 : (b.1 - a.1) * (q.2 - p.2) = (b.2 - a.2) * (q.1 - p.1) := by
    have := tn_sub a b q p
    rw [hp, hq] at this; omega
  have e2 : (d.1 - c.1) * (q.2 - p.2) = (d.2 - c.2) * (q.1 - p.1) := by
    have := tn_sub c d q p
    rw [gp, gq] at this; omega
  -- both along q - p
  have e3 : (b.1 - a.1) * (d.2 - c.2) = (b.2 - a.2) * (d.1 - c.1) := by
    have f1 : (q.1 - p.1) * (b.2 - a.2) = (q.2 - p.2) * (b.1 - a.1) := by grind
    have f2 : (q.1 - p.1) * (d.2 - c.2) = (q.2 - p.2) * (d.1 - c.1) := by grind
    exact par k f1 f2
  have e4 : (b.1 - a.1) * (p.2 - a.2) = (b.2 - a.2) * (p.1 - a.1) := by
    have := tn_sub a b p a
    rw [hp, tn_a] at this; omega
  have e5 := par v e4 e3
  have z : tn c d a = 0 := by
    have := tn_sub c d a p
    rw [gp] at this
    grind
  have s := tn_sub c d a b
  have : tn c d b = 0 := by rw [z] at s; grind
  exact ⟨z, this⟩
/-! ### the program's answer -/
inductive Mt where
  | none | touch (p : Pt) | over (p q : Pt) | cross (x y : Int × Int)
def mx (a b : Int) : Int := if b > a then b else a
def mn (a b : Int) : Int := if b < a then b else a
def apartB (a b c d : Pt) : Bool := (decide (b.1 < c.1) || decide (d.1 < a.1)) || (decide (mx a.2 b.2 < mn c.2 d.2) || decide (mx c.2 d.2 < mn a.2 b.2))
def low (a c : Pt) : Pt := if lt a c = true then c else a
def high (b d : Pt) : Pt := if lt d b = true then d else b
def lineM (a b c d : Pt) : Mt := if lt (high b d) (low a c) = true then .none else if low a c = high b d then .touch (low a c) else .over (low a c) (high b d)
def endM (a b c d : Pt) : Option Pt := if on a c d = true then some a else if on b c d = true then some b else if on c a b = true then some c else if on d a b = true then some d else none
def cutN (u v be af : Int) : Int := u * (be - af) + be * (v - u)
def cross (a b : Pt) (be af : Int) : Mt := .cross (lowN (cutN a.1 b.1 be af) (be - af), lowD (cutN a.1 b.1 be af) (be - af)) (lowN (cutN a.2 b.2 be af) (be - af), lowD (cutN a.2 b.2 be af) (be - af))
def meetM (a b c d : Pt) : Mt :=
  if apartB a b c d = true then .none
  else if tn c d a = 0 ∧ tn c d b = 0 then lineM a b c d
  else match endM a b c d with
    | some p => .touch p
    | none => if tn c d a * tn c d b < 0 ∧ tn a b c * tn a b d < 0 then cross a b (tn c d a) (tn c d b) else .none
/-! ### the law's answer -/
/-- the ends that lie on the other segment -/
def ends (a b c d : Pt) : List Pt := (if on a c d = true then [a] else []) ++ (if on b c d = true then [b] else []) ++ (if on c a b = true then [c] else []) ++ (if on d a b = true then [d] else [])
theorem mem_ends {a b c d p : Pt} : p ∈ ends a b c d ↔ (p = a ∧ on a c d = true) ∨ (p = b ∧ on b c d = true) ∨ (p = c ∧ on c a b = true) ∨ (p = d ∧ on d a b = true) := by
  unfold ends
  simp only [List.mem_append]
  constructor
  · rintro (((h | h) | h) | h)
    all_goals (split at h <;> simp at h)
    · exact .inl ⟨h, by assumption⟩
    · exact .inr (.inl ⟨h, by assumption⟩)
    · exact .inr (.inr (.inl ⟨h, by assumption⟩))
    · exact .inr (.inr (.inr ⟨h, by assumption⟩))
  · rintro (⟨rfl, h⟩ | ⟨rfl, h⟩ | ⟨rfl, h⟩ | ⟨rfl, h⟩)
    · exact .inl (.inl (.inl (by rw [if_pos h]; simp)))
    · exact .inl (.inl (.inr (by rw [if_pos h]; simp)))
    · exact .inl (.inr (by rw [if_pos h]; simp))
    · exact .inr (by rw [if_pos h]; simp)
/-- each of them lies on both -/
theorem ends_on {a b c d p : Pt} (hab : lt a b = true) (hcd : lt c d = true) (h : p ∈ ends a b c d) : on p a b = true ∧ on p c d = true := by
  rcases mem_ends.mp h with ⟨rfl, h⟩ | ⟨rfl, h⟩ | ⟨rfl, h⟩ | ⟨rfl, h⟩
  · exact ⟨on_a hab, h⟩
  · exact ⟨on_b hab, h⟩
  · exact ⟨h, on_a hcd⟩
  · exact ⟨h, on_b hcd⟩
/-- apart: nothing is on both -/
theorem on_range {p a b : Pt} (hab : lt a b = true) (h : on p a b = true) : a.1 ≤ p.1 ∧ p.1 ≤ b.1 ∧ mn a.2 b.2 ≤ p.2 ∧ p.2 ≤ mx a.2 b.2 := by
  rw [on_box hab] at h
  unfold box boxI at h
  simp only [Bool.and_eq_true, decide_eq_true_eq] at h
  obtain ⟨_, ⟨h1, h2⟩, h3, h4⟩ := h
  rw [lt_iff] at hab
  unfold mn mx
  refine ⟨?_, ?_, h3, h4⟩
  · split at h1 <;> omega
  · split at h2 <;> omega
theorem apart_none {a b c d p : Pt} (hab : lt a b = true) (hcd : lt c d = true) (h1 : on p a b = true) (h2 : on p c d = true) : apartB a b c d = false := by
  have r1 := on_range hab h1
  have r2 := on_range hcd h2
  unfold apartB
  simp only [Bool.or_eq_false_iff, decide_eq_false_iff_not]
  omega
/-- they cross within: no boxes apart -/
theorem weigh {W x y u v lo hi : Int} (hx : 0 < x) (hy : 0 < y) (hu : lo ≤ u ∧ u ≤ hi) (hv : lo ≤ v ∧ v ≤ hi) (hW : W = x * u + y * v) : (x + y) * lo ≤ W ∧ W ≤ (x + y) * hi := by
  have a1 := Int.mul_le_mul_of_nonneg_left hu.1 (Int.le_of_lt hx)
  have a2 := Int.mul_le_mul_of_nonneg_left hu.2 (Int.le_of_lt hx)
  have a3 := Int.mul_le_mul_of_nonneg_left hv.1 (Int.le_of_lt hy)
  have a4 := Int.mul_le_mul_of_nonneg_left hv.2 (Int.le_of_lt hy)
  rw [Int.add_mul, Int.add_mul]
  omega
theorem ranges_meet {x y z w a b c d W : Int} (hx : 0 < x) (hy : 0 < y) (hz : 0 < z) (hw : 0 < w) (hs : x + y = z + w) (h1 : W = x * a + y * b) (h2 : W = z * c + w * d) : mn a b ≤ mx c d ∧ mn c d ≤ mx a b := by
  have m1 := weigh (lo := mn a b) (hi := mx a b) hx hy (by unfold mn mx; split <;> split <;> omega) (by unfold mn mx; split <;> split <;> omega) h1
  have m2 := weigh (lo := mn c d) (hi := mx c d) hz hw (by unfold mn mx; split <;> split <;> omega) (by unfold mn mx; split <;> split <;> omega) h2
  rw [← hs] at m2
  have p : 0 < x + y := by omega
  exact ⟨Int.le_of_mul_le_mul_left (Int.le_trans m1.1 m2.2) p, Int.le_of_mul_le_mul_left (Int.le_trans m2.1 m1.2) p⟩
theorem neg_signs {x y : Int} (h : x * y < 0) : (0 < x ∧ y < 0) ∨ (x < 0 ∧ 0 < y) := by
  rcases Int.lt_trichotomy x 0 with a | a | a <;> rcases Int.lt_trichotomy y 0 with b | b | b
  · have := Int.mul_pos_of_neg_of_neg a b; omega
  · rw [b, Int.mul_zero] at h; omega
  · exact .inr ⟨a, b⟩
  · rw [a, Int.zero_mul] at h; omega
  · rw [a, Int.zero_mul] at h; omega
  · rw [a, Int.zero_mul] at h; omega
  · exact .inl ⟨a, b⟩
  · rw [b, Int.mul_zero] at h; omega
  · have := Int.mul_pos a b; omega
theorem cross_near {a b c d : Pt} (hab : lt a b = true) (hcd : lt c d = true) (h1 : tn c d a * tn c d b < 0) (h2 : tn a b c * tn a b d < 0) : apartB a b c d = false := by
  have f := tn_four a b c d
  have ex := tn_x a b c d
  have ey := tn_y a b c d
  have key : (mn a.1 b.1 ≤ mx c.1 d.1 ∧ mn c.1 d.1 ≤ mx a.1 b.1) ∧ (mn a.2 b.2 ≤ mx c.2 d.2 ∧ mn c.2 d.2 ≤ mx a.2 b.2) := by
    rcases neg_signs h1 with ⟨p1, p2⟩ | ⟨p1, p2⟩
    · have q : 0 < tn a b d ∧ tn a b c < 0 := by rcases neg_signs h2 with ⟨q1, q2⟩ | ⟨q1, q2⟩ <;> omega
      refine ⟨ranges_meet (x := -tn c d b) (y := tn c d a) (z := tn a b d) (w := -tn a b c) (by omega) p1 q.1 (by omega) (by omega) rfl (by grind), ranges_meet (x := -tn c d b) (y := tn c d a) (z := tn a b d) (w := -tn a b c) (by omega) p1 q.1 (by omega) (by omega) rfl (by grind)⟩
    · have q : 0 < tn a b c ∧ tn a b d < 0 := by rcases neg_signs h2 with ⟨q1, q2⟩ | ⟨q1, q2⟩ <;> omega
      refine ⟨ranges_meet (x := tn c d b) (y := -tn c d a) (z := -tn a b d) (w := tn a b c) p2 (by omega) (by omega) q.1 (by omega) rfl (by grind), ranges_meet (x := tn c d b) (y := -tn c d a) (z := -tn a b d) (w := tn a b c) p2 (by omega) (by omega) q.1 (by omega) rfl (by grind)⟩
  rw [lt_iff] at hab hcd
  unfold apartB
  simp only [Bool.or_eq_false_iff, decide_eq_false_iff_not]
  obtain ⟨⟨k1, k2⟩, k3, k4⟩ := key
  refine ⟨⟨?_, ?_⟩, ?_, ?_⟩
  · unfold mn mx at k2; split at k2 <;> split at k2 <;> omega
  · unfold mn mx at k1; split at k1 <;> split at k1 <;> omega
  · omega
  · omega
end My
namespace My
/-! ### the two answers agree -/
theorem low_case (a c : Pt) : (low a c = a ∧ lt a c = false) ∨ (low a c = c ∧ lt a c = true) := by
  unfold low
  by_cases h : lt a c = true
  · rw [if_pos h]; exact .inr ⟨rfl, h⟩
  · rw [if_neg h]; exact .inl ⟨rfl, by cases e : lt a c <;> simp_all⟩
theorem high_case (b d : Pt) : (high b d = b ∧ lt d b = false) ∨ (high b d = d ∧ lt d b = true) := by
  unfold high
  by_cases h : lt d b = true
  · rw [if_pos h]; exact .inr ⟨rfl, h⟩
  · rw [if_neg h]; exact .inl ⟨rfl, by cases e : lt d b <;> simp_all⟩
/-- on one line: a point of it is on both exactly if it lies between the greater first end and the lesser last end -/
theorem line_on {a b c d p : Pt} (h1 : tn a b p = 0) (h2 : tn c d p = 0) : (on p a b = true ∧ on p c d = true) ↔ lt p (low a c) = false ∧ lt (high b d) p = false := by
  rw [on_iff, on_iff]
  constructor
  · rintro ⟨⟨_, x1, x2⟩, _, x3, x4⟩
    refine ⟨?_, ?_⟩
    · rcases low_case a c with ⟨e, _⟩ | ⟨e, _⟩ <;> rw [e] <;> assumption
    · rcases high_case b d with ⟨e, _⟩ | ⟨e, _⟩ <;> rw [e] <;> assumption
  · rintro ⟨x1, x2⟩
    have y1 : lt p a = false ∧ lt p c = false := by
      rcases low_case a c with ⟨e, g⟩ | ⟨e, g⟩ <;> rw [e] at x1
      · exact ⟨x1, le_trans g x1⟩
      · exact ⟨le_trans (lt_le g) x1, x1⟩
    have y2 : lt b p = false ∧ lt d p = false := by
      rcases high_case b d with ⟨e, g⟩ | ⟨e, g⟩ <;> rw [e] at x2
      · exact ⟨x2, le_trans x2 g⟩
      · exact ⟨le_trans x2 (lt_le g), x2⟩
    exact ⟨⟨h1, y1.1, y2.1⟩, h2, y1.2, y2.2⟩
/-- what the law wants of the answer m -/
structure Right (a b c d : Pt) (m : Mt) : Prop where
  none_ : ends a b c d = [] → (0 ≤ tn a b c * tn a b d ∨ 0 ≤ tn c d a * tn c d b) → m = .none
  touch_ : ∀ p, p ∈ ends a b c d → (∀ q ∈ ends a b c d, q = p) → m = .touch p
  over_ : ∀ p q, p ∈ ends a b c d → q ∈ ends a b c d → p ≠ q → (∀ r ∈ ends a b c d, lt r p = false ∧ lt q r = false) → m = .over p q
  cross_ : ends a b c d = [] → tn a b c * tn a b d < 0 → tn c d a * tn c d b < 0 → m = cross a b (tn c d a) (tn c d b)
theorem endM_none {a b c d : Pt} : endM a b c d = none ↔ ends a b c d = [] := by
  unfold endM ends
  by_cases h1 : on a c d = true
  · simp [h1]
  · by_cases h2 : on b c d = true
    · simp [h1, h2]
    · by_cases h3 : on c a b = true
      · simp [h1, h2, h3]
      · by_cases h4 : on d a b = true
        · simp [h1, h2, h3, h4]
        · simp [h1, h2, h3, h4]
theorem endM_some {a b c d p : Pt} (h : endM a b c d = some p) : p ∈ ends a b c d := by
  rw [mem_ends]
  unfold endM at h
  split at h
  · cases h; exact .inl ⟨rfl, by assumption⟩
  · split at h
    · cases h; exact .inr (.inl ⟨rfl, by assumption⟩)
    · split at h
      · cases h; exact .inr (.inr (.inl ⟨rfl, by assumption⟩))
      · split at h
        · cases h; exact .inr (.inr (.inr ⟨rfl, by assumption⟩))
        · cases h
theorem meet_right {a b c d : Pt} (hab : lt a b = true) (hcd : lt c d = true) : Right a b c d (meetM a b c d) := by
  by_cases hap : apartB a b c d = true
  · have e : meetM a b c d = .none := by unfold meetM; rw [if_pos hap]
    have no : ∀ p, p ∉ ends a b c d := fun p hp => by
      obtain ⟨x, y⟩ := ends_on hab hcd hp
      rw [apart_none hab hcd x y] at hap
      cases hap
    exact ⟨fun _ _ => e, fun p hp => absurd hp (no p), fun p q hp => absurd hp (no p), fun _ h1 h2 => by rw [cross_near hab hcd h2 h1] at hap; cases hap⟩
  · by_cases hl : tn c d a = 0 ∧ tn c d b = 0
    · have e : meetM a b c d = lineM a b c d := by unfold meetM; rw [if_neg hap, if_pos hl]
      rw [e]
      obtain ⟨z1, z2⟩ := line_sym hab hcd hl.1 hl.2
      have on_all : ∀ p, p = a ∨ p = b ∨ p = c ∨ p = d → tn a b p = 0 ∧ tn c d p = 0 := by
        rintro p (rfl | rfl | rfl | rfl)
        · exact ⟨tn_a _ _, hl.1⟩
        · exact ⟨tn_b _ _, hl.2⟩
        · exact ⟨z1, tn_a _ _⟩
        · exact ⟨z2, tn_b _ _⟩
      have lowm : low a c = a ∨ low a c = b ∨ low a c = c ∨ low a c = d := by rcases low_case a c with ⟨e, _⟩ | ⟨e, _⟩ <;> simp [e]
      have highm : high b d = a ∨ high b d = b ∨ high b d = c ∨ high b d = d := by rcases high_case b d with ⟨e, _⟩ | ⟨e, _⟩ <;> simp [e]
      -- an end that is on both is one of the ends
      have isend : ∀ p, (p = a ∨ p = b ∨ p = c ∨ p = d) → on p a b = true → on p c d = true → p ∈ ends a b c d := by
        rintro p (rfl | rfl | rfl | rfl) x y <;> rw [mem_ends]
        · exact .inl ⟨rfl, y⟩
        · exact .inr (.inl ⟨rfl, y⟩)
        · exact .inr (.inr (.inl ⟨rfl, x⟩))
        · exact .inr (.inr (.inr ⟨rfl, x⟩))
      have range : ∀ p ∈ ends a b c d, lt p (low a c) = false ∧ lt (high b d) p = false := fun p hp => by
        have m : p = a ∨ p = b ∨ p = c ∨ p = d := by rcases mem_ends.mp hp with ⟨h, _⟩ | ⟨h, _⟩ | ⟨h, _⟩ | ⟨h, _⟩ <;> simp [h]
        obtain ⟨t1, t2⟩ := on_all p m
        exact (line_on t1 t2).mp (ends_on hab hcd hp)
      unfold lineM
      by_cases g : lt (high b d) (low a c) = true
      · rw [if_pos g]
        have no : ∀ p, p ∉ ends a b c d := fun p hp => by
          obtain ⟨x, y⟩ := range p hp
          rw [le_trans x y] at g
          cases g
        exact ⟨fun _ _ => rfl, fun p hp => absurd hp (no p), fun p q hp => absurd hp (no p), fun _ h1 _ => by rw [z1, Int.zero_mul] at h1; omega⟩
      · rw [if_neg g]
        have g : lt (high b d) (low a c) = false := by cases e : lt (high b d) (low a c) <;> simp_all
        have lowin : low a c ∈ ends a b c d := by
          obtain ⟨t1, t2⟩ := on_all _ lowm
          obtain ⟨x, y⟩ := (line_on t1 t2).mpr ⟨lt_irr _, g⟩
          exact isend _ lowm x y
        have highin : high b d ∈ ends a b c d := by
          obtain ⟨t1, t2⟩ := on_all _ highm
          obtain ⟨x, y⟩ := (line_on t1 t2).mpr ⟨g, lt_irr _⟩
          exact isend _ highm x y
        refine ⟨(fun h => by rw [h] at lowin; cases lowin), fun p hp all => ?_, fun p q hp hq n ord => ?_, (fun h => by rw [h] at lowin; cases lowin)⟩
        · rw [all _ lowin, all _ highin, if_pos rfl]
        · have e1 : p = low a c := lt_tri (range p hp).1 (ord _ lowin).1
          have e2 : q = high b d := lt_tri (ord _ highin).2 (range q hq).2
          rw [← e1, ← e2, if_neg n]
    · -- at most one common point
      have one : ∀ p ∈ ends a b c d, ∀ q ∈ ends a b c d, q = p := fun p hp q hq => by
        by_cases n : p = q
        · exact n.symm
        · obtain ⟨x1, x2⟩ := ends_on hab hcd hp
          obtain ⟨y1, y2⟩ := ends_on hab hcd hq
          exact absurd (two_points hab hcd (on_iff.mp x1).1 (on_iff.mp y1).1 (on_iff.mp x2).1 (on_iff.mp y2).1 n) hl
      have e : meetM a b c d = match endM a b c d with
          | some p => .touch p
          | none => if tn c d a * tn c d b < 0 ∧ tn a b c * tn a b d < 0 then cross a b (tn c d a) (tn c d b) else .none := by
        unfold meetM; rw [if_neg hap, if_neg hl]
      rw [e]
      cases em : endM a b c d with
      | some p =>
        have hp := endM_some em
        refine ⟨(fun h => by rw [h] at hp; cases hp), (fun q hq _ => by rw [one q hq p hp]), fun p' q' hp' hq' n => absurd (one p' hp' q' hq').symm n, (fun h => by rw [h] at hp; cases hp)⟩
      | none =>
        have h0 := endM_none.mp em
        refine ⟨fun _ h => ?_, (fun p hp => by rw [h0] at hp; cases hp), (fun p q hp => by rw [h0] at hp; cases hp), fun _ h1 h2 => ?_⟩
        · show (if _ then _ else _) = _
          rw [if_neg (by omega)]
        · show (if _ then _ else _) = _
          rw [if_pos ⟨h2, h1⟩]
/-! ### the other way round -/
theorem ends_sym {a b c d p : Pt} : p ∈ ends c d a b ↔ p ∈ ends a b c d := by
  rw [mem_ends, mem_ends]
  constructor <;> (rintro (h | h | h | h) <;> simp [h])
theorem low_unique {n1 d1 n2 d2 N1 D1 N2 D2 : Int} (L1 : LowOk n1 d1 N1 D1) (L2 : LowOk n2 d2 N2 D2) (z1 : d1 ≠ 0) (z2 : d2 ≠ 0) (h : n1 * d2 = n2 * d1) : N1 = N2 ∧ D1 = D2 := by
  obtain ⟨⟨g1, y1, e1, e2⟩, q1, o1⟩ := L1
  obtain ⟨⟨g2, y2, e3, e4⟩, q2, o2⟩ := L2
  have k : N1 * D2 = N2 * D1 := by
    have : g1 * g2 * (N1 * D2) = g1 * g2 * (N2 * D1) := by
      have a1 : g1 * g2 * (N1 * D2) = n1 * d2 := by rw [e1, e4]; grind
      have a2 : g1 * g2 * (N2 * D1) = n2 * d1 := by rw [e3, e2]; grind
      rw [a1, a2, h]
    exact Int.eq_of_mul_eq_mul_left (Int.mul_ne_zero y1 y2) this
  have kn : N1.natAbs * D2.natAbs = N2.natAbs * D1.natAbs := by
    have := congrArg Int.natAbs k
    rwa [Int.natAbs_mul, Int.natAbs_mul] at this
  have d12 : D1.natAbs ∣ D2.natAbs := by
    have : D1.natAbs ∣ N1.natAbs * D2.natAbs := ⟨N2.natAbs, by rw [kn, Nat.mul_comm]⟩
    exact Nat.Coprime.dvd_of_dvd_mul_left (Nat.Coprime.symm o1) this
  have d21 : D2.natAbs ∣ D1.natAbs := by
    have : D2.natAbs ∣ N2.natAbs * D1.natAbs := ⟨N1.natAbs, by rw [← kn, Nat.mul_comm]⟩
    exact Nat.Coprime.dvd_of_dvd_mul_left (Nat.Coprime.symm o2) this
  have e := Nat.dvd_antisymm d12 d21
  have eD : D1 = D2 := by omega
  refine ⟨?_, eD⟩
  rw [eD] at k
  exact Int.eq_of_mul_eq_mul_right (by omega) k
theorem cut_sym {a b c d : Pt} (hW : tn c d a - tn c d b ≠ 0) : cross c d (tn a b c) (tn a b d) = cross a b (tn c d a) (tn c d b) := by
  have f := tn_four a b c d
  have ex := tn_x a b c d
  have ey := tn_y a b c d
  have hW2 : tn a b c - tn a b d ≠ 0 := by omega
  have u1 := low_unique (low_ok (n := cutN c.1 d.1 (tn a b c) (tn a b d)) hW2) (low_ok (n := cutN a.1 b.1 (tn c d a) (tn c d b)) hW) hW2 hW (by
    have x1 : cutN c.1 d.1 (tn a b c) (tn a b d) = tn a b c * d.1 - tn a b d * c.1 := by unfold cutN; grind
    have x2 : cutN a.1 b.1 (tn c d a) (tn c d b) = tn c d a * b.1 - tn c d b * a.1 := by unfold cutN; grind
    have x3 : tn a b c - tn a b d = -(tn c d a - tn c d b) := by omega
    rw [x1, x2, x3, ex]; grind)
  have u2 := low_unique (low_ok (n := cutN c.2 d.2 (tn a b c) (tn a b d)) hW2) (low_ok (n := cutN a.2 b.2 (tn c d a) (tn c d b)) hW) hW2 hW (by
    have x1 : cutN c.2 d.2 (tn a b c) (tn a b d) = tn a b c * d.2 - tn a b d * c.2 := by unfold cutN; grind
    have x2 : cutN a.2 b.2 (tn c d a) (tn c d b) = tn c d a * b.2 - tn c d b * a.2 := by unfold cutN; grind
    have x3 : tn a b c - tn a b d = -(tn c d a - tn c d b) := by omega
    rw [x1, x2, x3, ey]; grind)
  unfold cross
  rw [u1.1, u1.2, u2.1, u2.2]
/-- the least and the greatest of some points -/
theorem least_of : ∀ (l : List Pt), l ≠ [] → ∃ p ∈ l, ∀ r ∈ l, lt r p = false
  | [], h => absurd rfl h
  | [p], _ => ⟨p, by simp, fun r hr => by rw [List.mem_singleton.mp hr]; exact lt_irr p⟩
  | p :: q :: l, _ => by
    obtain ⟨m, hm, all⟩ := least_of (q :: l) (by simp)
    by_cases h : lt p m = true
    · refine ⟨p, by simp, fun r hr => ?_⟩
      rcases List.mem_cons.mp hr with rfl | hr
      · exact lt_irr r
      · exact le_trans (lt_le h) (all r hr)
    · refine ⟨m, List.mem_cons_of_mem _ hm, fun r hr => ?_⟩
      rcases List.mem_cons.mp hr with rfl | hr
      · cases e : lt r m <;> simp_all
      · exact all r hr
theorem greatest_of : ∀ (l : List Pt), l ≠ [] → ∃ p ∈ l, ∀ r ∈ l, lt p r = false
  | [], h => absurd rfl h
  | [p], _ => ⟨p, by simp, fun r hr => by rw [List.mem_singleton.mp hr]; exact lt_irr p⟩
  | p :: q :: l, _ => by
    obtain ⟨m, hm, all⟩ := greatest_of (q :: l) (by simp)
    by_cases h : lt m p = true
    · refine ⟨p, by simp, fun r hr => ?_⟩
      rcases List.mem_cons.mp hr with rfl | hr
      · exact lt_irr r
      · exact le_trans (all r hr) (lt_le h)
    · refine ⟨m, List.mem_cons_of_mem _ hm, fun r hr => ?_⟩
      rcases List.mem_cons.mp hr with rfl | hr
      · cases e : lt m r <;> simp_all
      · exact all r hr
theorem meet_sym {a b c d : Pt} (hab : lt a b = true) (hcd : lt c d = true) : meetM c d a b = meetM a b c d := by
  have R := meet_right hab hcd
  have S := meet_right hcd hab
  by_cases h0 : ends a b c d = []
  · have h1 : ends c d a b = [] := List.eq_nil_iff_forall_not_mem.mpr fun p hp => by
      have := ends_sym.mp hp
      rw [h0] at this
      cases this
    by_cases k : 0 ≤ tn a b c * tn a b d ∨ 0 ≤ tn c d a * tn c d b
    · rw [R.none_ h0 k, S.none_ h1 k.symm]
    · have k1 : tn a b c * tn a b d < 0 := by omega
      have k2 : tn c d a * tn c d b < 0 := by omega
      rw [R.cross_ h0 k1 k2, S.cross_ h1 k2 k1]
      have n := neg_signs k2
      exact cut_sym (by omega)
  · obtain ⟨p, hp, ap⟩ := least_of _ h0
    obtain ⟨q, hq, aq⟩ := greatest_of _ h0
    by_cases e : p = q
    · subst e
      have one : ∀ r ∈ ends a b c d, r = p := fun r hr => lt_tri (ap r hr) (aq r hr)
      rw [R.touch_ p hp one, S.touch_ p (ends_sym.mpr hp) fun r hr => one r (ends_sym.mp hr)]
    · rw [R.over_ p q hp hq e fun r hr => ⟨ap r hr, aq r hr⟩, S.over_ p q (ends_sym.mpr hp) (ends_sym.mpr hq) e fun r hr => ⟨ap r (ends_sym.mp hr), aq r (ends_sym.mp hr)⟩]
/-! ### the crossing lies on both lines -/
end My
namespace My
open PySem L2
/-! ## meetings at addresses -/
abbrev PtAt (K : PySem.W.Frag) (H : Hp) (p : Addr) (P : Int × Int) : Prop := SqT K H p [.int P.1, .int P.2]
def MtAt (K : PySem.W.Frag) (H : Hp) (v : V) : Mt → Prop
  | .none => ∃ p, v = .ref p ∧ SqT K H p [.str "none"]
  | .touch P => ∃ p q, v = .ref p ∧ SqT K H p [.str "touch", .ref q] ∧ PtAt K H q P
  | .over P R => ∃ p q r, v = .ref p ∧ SqT K H p [.str "overlap", .ref q, .ref r] ∧ PtAt K H q P ∧ PtAt K H r R
  | .cross x y => ∃ p q r, v = .ref p ∧ SqT K H p [.str "cross", .ref q, .ref r] ∧ PtAt K H q x ∧ PtAt K H r y
theorem MtAt.same {K : PySem.W.Frag} {H H' : Hp} (e : Same H H') {v : V} : ∀ {m : Mt}, MtAt K H v m → MtAt K H' v m
  | .none, ⟨p, h, a⟩ => ⟨p, h, tSame e a⟩
  | .touch _, ⟨p, q, h, a, b⟩ => ⟨p, q, h, tSame e a, tSame e b⟩
  | .over _ _, ⟨p, q, r, h, a, b, c⟩ => ⟨p, q, r, h, tSame e a, tSame e b, tSame e c⟩
  | .cross _ _, ⟨p, q, r, h, a, b, c⟩ => ⟨p, q, r, h, tSame e a, tSame e b, tSame e c⟩
def CeAt (K : PySem.W.Frag) (H : Hp) (v : V) : Option Pt → Prop
  | some P => ∃ q, v = .ref q ∧ PtAt K H q P
  | none => v = .non
def sgn (n : Int) : Int := (if decide (0 < n) = true then 1 else 0) - (if decide (n < 0) = true then 1 else 0)
theorem sgn_ge (x y : Int) : decide (0 ≤ sgn x * sgn y) = decide (0 ≤ x * y) := by
  unfold sgn
  rcases Int.lt_trichotomy x 0 with a | a | a <;> rcases Int.lt_trichotomy y 0 with b | b | b
  · have := Int.mul_pos_of_neg_of_neg a b
    simp [a, b, Int.not_lt.mpr (Int.le_of_lt a), Int.not_lt.mpr (Int.le_of_lt b), Int.le_of_lt this]
  · subst b; simp
  · have := Int.mul_neg_of_neg_of_pos a b
    simp [a, b, Int.not_lt.mpr (Int.le_of_lt a), Int.not_lt.mpr (Int.le_of_lt b), Int.not_le.mpr this]
  · subst a; simp
  · subst a; simp
  · subst a; simp
  · have := Int.mul_neg_of_pos_of_neg a b
    simp [a, b, Int.not_lt.mpr (Int.le_of_lt a), Int.not_lt.mpr (Int.le_of_lt b), Int.not_le.mpr this]
  · subst b; simp
  · have := Int.mul_pos a b
    simp [a, b, Int.not_lt.mpr (Int.le_of_lt a), Int.not_lt.mpr (Int.le_of_lt b), Int.le_of_lt this]
theorem turn_le {ax ay bx dy cx cy : Int} (oa : On ax ay) (ob : On bx dy) (oc : On cx cy) : (turnI ax ay bx dy cx cy).natAbs ≤ 2 ^ 23 :=
  sub_le (x := 22) (mul_le (x := 11) (y := 11) (ob.d oa).1 (oc.d oa).2) (mul_le (x := 11) (y := 11) (ob.d oa).2 (oc.d oa).1)
end My
namespace My
open PySem L2
theorem int0 {x : Int} (h : V.int x = V.int 0) : x = 0 := by injection h
end My
namespace My
open PySem L2
theorem MtAt.dq {K : PySem.W.Frag} {H : Hp} {u v : V} : ∀ {m : Mt}, MtAt K H u m → MtAt K H v m → Dq K H 4 u v
  | .none, ⟨_, h, a⟩, ⟨_, h', a'⟩ => by
    subst h h'
    exact .tup a a' rfl (Nat.le_of_ble_eq_true rfl) fun i x y hx hy => by
      have : i < 1 := (List.getElem?_eq_some_iff.mp hx).1
      obtain rfl : i = 0 := by omega
      cases hx; cases hy; exact .str _ _
  | .touch _, ⟨_, _, h, a, b⟩, ⟨_, _, h', a', b'⟩ => by
    subst h h'
    exact .tup a a' rfl (Nat.le_of_ble_eq_true rfl) (two_get (.str _ _) (.tup b b' rfl (Nat.le_of_ble_eq_true rfl) (two_get (.int 1 _) (.int 1 _))))
  | .over _ _, ⟨_, _, _, h, a, b, c⟩, ⟨_, _, _, h', a', b', c'⟩ => by
    subst h h'
    exact .tup a a' rfl (Nat.le_of_ble_eq_true rfl) (three_get (.str _ _) (.tup b b' rfl (Nat.le_of_ble_eq_true rfl) (two_get (.int 1 _) (.int 1 _))) (.tup c c' rfl (Nat.le_of_ble_eq_true rfl) (two_get (.int 1 _) (.int 1 _))))
  | .cross _ _, ⟨_, _, _, h, a, b, c⟩, ⟨_, _, _, h', a', b', c'⟩ => by
    subst h h'
    exact .tup a a' rfl (Nat.le_of_ble_eq_true rfl) (three_get (.str _ _) (.tup b b' rfl (Nat.le_of_ble_eq_true rfl) (two_get (.int 1 _) (.int 1 _))) (.tup c c' rfl (Nat.le_of_ble_eq_true rfl) (two_get (.int 1 _) (.int 1 _))))
end My
namespace My
open PySem L2
/-! ## lines, and the nearest of their edges -/
theorem walk_zipT {K : PySem.W.Frag} {a b : Addr} {xs ys : List V} {n : Nat} (hn : n = min xs.length ys.length) : Walk (RZ.ItzT K a b) n (fun H => SqT K H a xs ∧ SqT K H b ys) (YPair (fun i => xs[i]?) (fun i => ys[i]?)) :=
  ⟨fun i H hi g => by
    have l1 : i < xs.length := by omega
    have l2 : i < ys.length := by omega
    exact ⟨xs, ys, _, _, g.1, g.2, get_at l1, get_at l2⟩, fun H g => ⟨xs, ys, g.1, g.2, by omega⟩, fun i H v H' _ g y => by
    obtain ⟨T, x, z, e1, e2, e3, e4, e5⟩ := y
    exact ⟨T, x, z, e1, e2, e3, e4 _ g.1, e5 _ g.2⟩⟩
section
variable {K : PySem.W.Frag} {H H' : Hp} {a p s D : Addr} {x v : V} {b c : Bool} {xs : List V} {o : HO} {zs : List Zp}
/-- x is a value of which is_point is b -/
def PV (K : PySem.W.Frag) (H : Hp) (x : V) (b : Bool) : Prop := ∃ n, Ty K H x n ∧ (n = "tuple" → ∃ a xs, x = .ref a ∧ SqT K H a xs ∧ (∀ v ∈ xs, ∃ m, Ty K H v m) ∧ b = pointB xs) ∧ (n ≠ "tuple" → b = false)
theorem PV.same (e : Same H H') (h : PV K H x b) : PV K H' x b := by
  obtain ⟨n, t, h1, h2⟩ := h
  refine ⟨n, t.same e, fun q => ?_, h2⟩
  obtain ⟨a, xs, e1, e2, e3, e4⟩ := h1 q
  exact ⟨a, xs, e1, tSame e e2, fun v hv => (e3 v hv).imp fun _ h => h.same e, e4⟩
theorem PV.tup (h : SqT K H a xs) (hm : ∀ v ∈ xs, ∃ m, Ty K H v m) (e : pointB xs = b) : PV K H (.ref a) b := ⟨_, .tup h, fun _ => ⟨_, _, rfl, h, hm, e.symm⟩, fun z => absurd rfl z⟩
theorem PV.pt {i j : Int} (h : SqT K H a [.int i, .int j]) (g : On i j) : PV K H (.ref a) true := .tup h two_ints g.b
/-- a tuple of values of which is_point is told -/
def AV (K : PySem.W.Frag) (lo hi : Int) (H : Hp) (x : V) (b : Bool) : Prop := ∃ n, Ty K H x n ∧ (n = "tuple" → ∃ (a : Addr) (xs : List V) (bs : List Bool), x = .ref a ∧ SqT K H a xs ∧ xs.length ≤ 1000 ∧ bs.length = xs.length ∧
  (∀ (i : Nat) v c, xs[i]? = some v → bs[i]? = some c → PV K H v c) ∧ b = ((decide (lo ≤ (xs.length : Int)) && decide ((xs.length : Int) ≤ hi)) && bs.all id)) ∧ (n ≠ "tuple" → b = false)
theorem AV.same {lo hi : Int} (e : Same H H') (h : AV K lo hi H x b) : AV K lo hi H' x b := by
  obtain ⟨n, t, h1, h2⟩ := h
  refine ⟨n, t.same e, fun q => ?_, h2⟩
  obtain ⟨a, xs, bs, e1, e2, e3, e4, e5, e6⟩ := h1 q
  exact ⟨a, xs, bs, e1, tSame e e2, e3, e4, fun i v c f g => (e5 i v c f g).same e, e6⟩
/-- points of the map in a tuple -/
structure LnAt (K : PySem.W.Frag) (H : Hp) (a : Addr) (zs : List Zp) : Prop where
  t : SqT K H a (refs zs)
  p : Pts K H zs
  on : ∀ z ∈ zs, On z.2.1 z.2.2
theorem LnAt.same (e : Same H H') (h : LnAt K H a zs) : LnAt K H' a zs := ⟨tSame e h.t, h.p.same e, h.on⟩
theorem LnAt.but {q : Addr} (e : But s H H') (S : Strm H s q) (h : LnAt K H a zs) : LnAt K H' a zs := ⟨tButS e S h.t, h.p.but e S, h.on⟩
theorem LnAt.av {lo hi : Int} (h : LnAt K H a zs) (hz : zs.length ≤ 1000) : AV K lo hi H (.ref a) (decide (lo ≤ (zs.length : Int)) && decide ((zs.length : Int) ≤ hi)) := by
  refine ⟨_, .tup h.t, fun _ => ⟨_, _, List.replicate zs.length true, rfl, h.t, by simpa using hz, by simp, fun i v c e1 e2 => ?_, by simp⟩, fun z => absurd rfl z⟩
  rw [List.getElem?_map] at e1
  obtain ⟨z, e3, rfl⟩ := Option.map_eq_some_iff.mp e1
  have hm := List.mem_of_getElem? e3
  rw [List.getElem?_replicate] at e2
  split at e2
  · injection e2 with e2
    subst e2
    exact .pt (h.p z hm) (h.on z hm)
  · cases e2
/-- neighbours are different -/
def Ne (zs : List Zp) : Prop := ∀ (i : Nat) u w, zs[i]? = some u → zs[i + 1]? = some w → ¬ (u.2.1 = w.2.1 ∧ u.2.2 = w.2.2)
def LnOk (zs : List Zp) : Prop := 2 ≤ zs.length ∧ zs.length ≤ 40 ∧ Ne zs
/-- x is a value of which is_line is b -/
def LnV (K : PySem.W.Frag) (H : Hp) (x : V) (b : Bool) : Prop := (∃ a zs, x = .ref a ∧ LnAt K H a zs ∧ zs.length ≤ 1000 ∧ (b = true ↔ LnOk zs)) ∨ (AV K 2 40 H x false ∧ b = false)
theorem LnV.same (e : Same H H') (h : LnV K H x b) : LnV K H' x b := by
  rcases h with ⟨a, zs, e1, h, h2, h3⟩ | ⟨h, h2⟩
  · exact .inl ⟨a, zs, e1, h.same e, h2, h3⟩
  · exact .inr ⟨h.same e, h2⟩
end
section
variable {K : PySem.W.Frag} {H H' : Hp} {a t : Addr} {zs ws : List Zp}
theorem LnAt.sub (h : LnAt K H t zs) (hw : ∀ z ∈ ws, z ∈ zs) (ht : SqT K H a (refs ws)) : LnAt K H a ws := ⟨ht, fun z hz => h.p z (hw z hz), fun z hz => h.on z (hw z hz)⟩
theorem LnAt.get (h : LnAt K H t zs) {z : Zp} (hz : z ∈ zs) : SqT K H z.1 [.int z.2.1, .int z.2.2] := h.p z hz
end
/-! ## the lowest terms of equal fractions -/
def gR (px py ax ay bx dy : Int) : Int := gapN (px - ax) (py - ay) (bx - ax) (dy - ay) (clamp (dot (px - ax) (py - ay) (bx - ax) (dy - ay)) (sq (bx - ax) (dy - ay))) (sq (bx - ax) (dy - ay))
def gN (px py ax ay bx dy : Int) : Int := lowN (gR px py ax ay bx dy) (sq (bx - ax) (dy - ay) * sq (bx - ax) (dy - ay))
def gD (px py ax ay bx dy : Int) : Int := lowD (gR px py ax ay bx dy) (sq (bx - ax) (dy - ay) * sq (bx - ax) (dy - ay))
/-- the least at which a fraction is least -/
def bI (f : Nat → Int × Int) : Nat → Nat
  | 0 => 0
  | i + 1 => if (f i).1 * (f (bI f i)).2 < (f (bI f i)).1 * (f i).2 then i else bI f i
/-- the gap of the i-th edge -/
def gF (px py : Int) (zs : List Zp) (i : Nat) : Int × Int := match zs[i]?, zs[i + 1]? with
  | some u, some w => (gN px py u.2.1 u.2.2 w.2.1 w.2.2, gD px py u.2.1 u.2.2 w.2.1 w.2.2)
  | _, _ => (0, 1)
theorem gF_at {px py : Int} {zs : List Zp} {i : Nat} {u w : Zp} (h1 : zs[i]? = some u) (h2 : zs[i + 1]? = some w) : gF px py zs i = (gN px py u.2.1 u.2.2 w.2.1 w.2.2, gD px py u.2.1 u.2.2 w.2.1 w.2.2) := by
  unfold gF
  rw [h1, h2]
/-- a gap at an address -/
structure Gp (K : PySem.W.Frag) (H : Hp) (a : Addr) (f : Int × Int) : Prop where
  at_ : SqT K H a [.int f.1, .int f.2]
  pos : 0 < f.2
  one : Nat.gcd f.1.natAbs f.2.natAbs = 1
  bn : f.1.natAbs ≤ 2 ^ 71
  bd : f.2.natAbs ≤ 2 ^ 46
section
variable {K : PySem.W.Frag} {H H' : Hp} {a p s b D : Addr} {f : Int × Int} {o : HO}
theorem Gp.same (e : Same H H') (h : Gp K H a f) : Gp K H' a f := { h with at_ := tSame e h.at_ }
theorem Gp.but (e : But s H H') (S : Strm H s b) (h : Gp K H a f) : Gp K H' a f := { h with at_ := tButS e S h.at_ }
theorem Gp.put (q : ∃ ys, H D = some (.lst ys)) (h : Gp K H a f) : Gp K (upd H D o) a f := { h with at_ := tAt q h.at_ }
/-- the bounds of a gap -/
theorem gap_ok {px py ax ay bx dy : Int} (op : On px py) (oa : On ax ay) (ob : On bx dy) (ne : ¬ (ax = bx ∧ ay = dy)) :
    0 < sq (bx - ax) (dy - ay) ∧ 0 < gD px py ax ay bx dy ∧ Nat.gcd (gN px py ax ay bx dy).natAbs (gD px py ax ay bx dy).natAbs = 1 ∧ (gN px py ax ay bx dy).natAbs ≤ 2 ^ 71 ∧ (gD px py ax ay bx dy).natAbs ≤ 2 ^ 46 := by
  have hs : 0 < sq (bx - ax) (dy - ay) := sq_pos (by omega)
  have vd := ob.d oa
  have ud := op.d oa
  have sl := sq_le vd
  have gl := gap_le ud vd (clamp_le (dot_le ud vd) sl) sl
  have L := low_ok (n := gR px py ax ay bx dy) (d := sq (bx - ax) (dy - ay) * sq (bx - ax) (dy - ay)) (mul_ne hs hs)
  exact ⟨hs, L.pos, L.one, Nat.le_trans L.leN gl.2.2, Nat.le_trans L.leD (mul_le sl sl)⟩
theorem Gp.edge {q : Addr} {px py : Int} {zs : List Zp} {i : Nat} {u w : Zp} (h1 : zs[i]? = some u) (h2 : zs[i + 1]? = some w) (op : On px py) (ou : On u.2.1 u.2.2) (ow : On w.2.1 w.2.2) (ne : ¬ (u.2.1 = w.2.1 ∧ u.2.2 = w.2.2))
    (hq : SqT K H q [.int (gN px py u.2.1 u.2.2 w.2.1 w.2.2), .int (gD px py u.2.1 u.2.2 w.2.1 w.2.2)]) : Gp K H q (gF px py zs i) := by
  obtain ⟨_, k1, k2, k3, k4⟩ := gap_ok op ou ow ne
  rw [gF_at h1 h2]
  exact ⟨hq, k1, k2, k3, k4⟩
/-- the edge between two points, in either order -/
def EdgeAt (K : PySem.W.Frag) (H : Hp) (g : Addr) (u w : Zp) : Prop := SegAt K H g u.1 w.1 u.2.1 u.2.2 w.2.1 w.2.2 ∨ SegAt K H g w.1 u.1 w.2.1 w.2.2 u.2.1 u.2.2
theorem EdgeAt.same {g : Addr} {u w : Zp} (e : Same H H') (h : EdgeAt K H g u w) : EdgeAt K H' g u w := h.imp (fun h => h.same e) fun h => h.same e
theorem SegAt.put {K : PySem.W.Frag} {H : Hp} {D g a c : Addr} {ax ay bx dy : Int} {o : HO} (q : ∃ ys, H D = some (.lst ys)) (h : SegAt K H g a c ax ay bx dy) : SegAt K (upd H D o) g a c ax ay bx dy := { h with g := tAt q h.g, a := tAt q h.a, c := tAt q h.c }
theorem EdgeAt.put {g : Addr} {u w : Zp} (q : ∃ ys, H D = some (.lst ys)) (h : EdgeAt K H g u w) : EdgeAt K (upd H D o) g u w := h.imp (fun h => h.put q) fun h => h.put q
/-- of two different points one comes first -/
theorem ltP_or {ax ay bx dy : Int} (h : ¬ (ax = bx ∧ ay = dy)) (g : ltP ax ay bx dy = false) : ltP bx dy ax ay = true := by
  have := of_decide_eq_false g
  exact decide_eq_true (by omega)
/-- x is a value of which is_segment is b -/
def SgV (K : PySem.W.Frag) (H : Hp) (x : V) (b : Bool) : Prop := ∃ n, Ty K H x n ∧ (n = "tuple" → ∃ (g : Addr) (xs : List V), x = .ref g ∧ SqT K H g xs ∧ ((xs.length ≠ 2 ∧ b = false) ∨
  ∃ u v c d, xs = [u, v] ∧ PV K H u c ∧ PV K H v d ∧ ((c && d) = false ∧ b = false ∨ c = true ∧ d = true ∧ ∃ (i j : Addr) (ax ay bx dy : Int), u = .ref i ∧ v = .ref j ∧ SqT K H i [.int ax, .int ay] ∧ SqT K H j [.int bx, .int dy] ∧ On ax ay ∧ On bx dy ∧ b = ltP ax ay bx dy))) ∧ (n ≠ "tuple" → b = false)
theorem SgV.len {g : Addr} {xs : List V} (h : SqT K H g xs) (hn : xs.length ≠ 2) : SgV K H (.ref g) false := ⟨_, .tup h, fun _ => ⟨g, xs, rfl, h, .inl ⟨hn, rfl⟩⟩, fun z => absurd rfl z⟩
theorem SgV.two {g i j : Addr} {ax ay bx dy : Int} {b : Bool} (h : SqT K H g [.ref i, .ref j]) (hi : SqT K H i [.int ax, .int ay]) (hj : SqT K H j [.int bx, .int dy]) (oa : On ax ay) (oc : On bx dy) (e : ltP ax ay bx dy = b) : SgV K H (.ref g) b :=
  ⟨_, .tup h, fun _ => ⟨g, _, rfl, h, .inr ⟨_, _, true, true, rfl, .pt hi oa, .pt hj oc, .inr ⟨rfl, rfl, i, j, ax, ay, bx, dy, rfl, rfl, hi, hj, oa, oc, e.symm⟩⟩⟩, fun z => absurd rfl z⟩
end
end My
namespace Zl
open PySem PySem.Calls PyProof.Rows RZ
abbrev zob (o f : Value) (TI TO : Addr) : Obj := { cls := .type "zip", dict := none, data := .fields #[o, f, .bool false, .ref TI, .ref TO], slots := #[] }
section
variable {prog : Program} {w : World} {A : Around} {E : Value → Shared → Prop} {s : Shared}
theorem alive {a : Addr} {Q : Option Obj → Shared → Prop} (h : Q (s.heap.get? a) s) : wpAny (model prog w) A (loadIfAlive a) Q E s := fun Γ p _ => by
  unfold loadIfAlive
  rw [Sem.wp_loadIfAlive]
  exact h
/-- the tuple that was handed out first is still there -/
theorem held {z TI TO T0 : Addr} {o0 : Obj} {f : Bool} {Q : Bool → Shared → Prop} (isZ : s.heap.get? z = some (zob (rawInt T0) (.bool f) TI TO)) (there : s.heap.get? T0 = some o0)
    (h : ∀ h', h'.get? z = some (zob (rawInt T0) (.bool true) TI TO) → Heap.SameBut z s.heap h' → Q false { s with heap := h' }) : wpAny (model prog w) A (Builtin.SmallTypes.ownedTupleIsFree (.ref z)) Q E s := by
  unfold Builtin.SmallTypes.ownedTupleIsFree
  refine wpAny_bind (wpAny_field isZ rfl (x := rawInt T0) rfl ?_)
  show wpAny _ _ (loadIfAlive ((T0 : Int)).toNat >>= _) _ _ _
  refine wpAny_bind (alive ?_)
  rw [Int.toNat_natCast, there]
  show wpAny _ _ (field (.ref z) 1 >>= _) _ _ _
  refine wpAny_bind (wpAny_field isZ rfl (x := .bool f) rfl ?_)
  cases f with
  | true =>
    show wpAny _ _ (if (Value.bool true != Value.bool true) = true then _ else _) _ _ _
    rw [if_neg (by decide)]
    exact wpAny_pure (h s.heap isZ (Heap.SameBut.refl _ _))
  | false =>
    show wpAny _ _ (if (Value.bool false != Value.bool true) = true then _ else _) _ _ _
    rw [if_pos (by decide)]
    refine wpAny_bind (wpAny_setField_rec isZ (by simp) fun h₁ hz₁ hs₁ => ?_)
    exact wpAny_pure (h h₁ hz₁ hs₁)
theorem later_item {z TI TO T0 i1 i2 l1 l2 : Addr} {k1 k2 : Nat} {xs ys : Array Value} {x y : Value} {o0 : Obj} {f : Bool} {Q : Value → Shared → Prop} (D : ZipApart z TI TO i1 i2 l1 l2)
    (isZ : s.heap.get? z = some (zob (rawInt T0) (.bool f) TI TO)) (there : s.heap.get? T0 = some o0) (two : IsPair s.heap TI (.ref i1) (.ref i2))
    (h1 : s.heap.IsTupleIter i1 l1 k1) (h2 : s.heap.IsTupleIter i2 l2 k2) (hl1 : s.heap.IsTuple l1 xs) (hl2 : s.heap.IsTuple l2 ys) (hx : xs[k1]? = some x) (hy : ys[k2]? = some y)
    (hQ : ∀ h', h'.get? z = some (zob (rawInt T0) (.bool true) TI TO) → h'.IsTupleIter i1 l1 (k1 + 1) → h'.IsTupleIter i2 l2 (k2 + 1) → IsPair h' s.heap.objs.size x y → h'.objs.size = s.heap.objs.size + 1 →
      (∀ c o, c ≠ z → c ≠ i1 → c ≠ i2 → s.heap.get? c = some o → h'.get? c = some o) → Q (.ref s.heap.objs.size) { s with heap := h' }) :
    wpAny (model prog w) A (Builtin.«zip.__next__» ⟨[.ref z], []⟩) (fun fin s' => ∃ v, fin = .done (.ret v) ∧ Q v s') E s := by
  show wpAny _ _ (field (.ref z) 2 >>= _) _ _ _
  refine wpAny_bind (wpAny_field isZ rfl (x := .bool false) rfl (?_))
  show wpAny _ _ (field (.ref z) 3 >>= _) _ _ _
  refine wpAny_bind (wpAny_field isZ rfl (x := .ref TI) rfl (?_))
  refine wpAny_bind (wpAny_seqItems two rfl (?_))
  show wpAny _ _ (Builtin.SmallTypes.ownedTupleIsFree (.ref z) >>= _) _ _ _
  refine wpAny_bind (held isZ there fun g₁ z₁ e₁ => ?_)
  simp only [Bool.false_eq_true, if_false]
  refine wpAny_bind ?_
  rw [← Array.forIn_toList]
  simp only [List.forIn_cons, List.forIn_nil]
  refine wpAny_bind (wpAny_bind (wpAny_holding ?_))
  show wpAny _ _ (Builtin.SmallTypes.nextOf (.ref i1) >>= _) _ _ _
  refine wpAny_bind (nextOf_tuple_item (h1.extBut e₁.extBut D.i1z) (hl1.extBut e₁.extBut D.l1z) hx fun g₂ a₂ e₂ => wpAny_pure (?_))
  refine wpAny_pure (?_)
  refine wpAny_bind (wpAny_bind (wpAny_holding ?_))
  show wpAny _ _ (Builtin.SmallTypes.nextOf (.ref i2) >>= _) _ _ _
  refine wpAny_bind (nextOf_tuple_item ((h2.extBut e₁.extBut D.i2z).extBut e₂.extBut D.i12.symm) ((hl2.extBut e₁.extBut D.l2z).extBut e₂.extBut D.l2i1) hy fun g₃ b₃ e₃ => wpAny_pure (?_))
  refine wpAny_pure (?_)
  refine wpAny_pure (?_)
  show wpAny _ _ (newTuple [x, y] >>= _) _ _ _
  have size : g₃.objs.size = s.heap.objs.size := by rw [e₃.1, e₂.1, e₁.1]
  have kept : ∀ c o, c ≠ z → c ≠ i1 → c ≠ i2 → s.heap.get? c = some o → g₃.get? c = some o := fun c o n1 n2 n3 q => e₃.extBut _ _ n3 (e₂.extBut _ _ n2 (e₁.extBut _ _ n1 q))
  have z₃ : g₃.get? z = some (zob (rawInt T0) (.bool true) TI TO) := e₃.extBut _ _ D.i2z.symm (e₂.extBut _ _ D.i1z.symm z₁)
  have up : ∀ c o, g₃.get? c = some o → (g₃.push { cls := .type "tuple", data := .seq #[x, y] }).get? c = some o := fun c o q => Heap.get?_push_of_some _ q
  refine wpAny_bind (wpAny_newTuple (wpAny_pure ⟨_, rfl, ?_⟩))
  show Q (.ref g₃.objs.size) { s with heap := g₃.push { cls := .type "tuple", data := .seq #[x, y] } }
  rw [size]
  refine hQ _ (up _ _ z₃) ((a₂.extBut e₃.extBut D.i12).at fun o q => up _ o q) (b₃.at fun o q => up _ o q) ?_ (by rw [Heap.size_push, size]) fun c o n1 n2 n3 q => up _ _ (kept c o n1 n2 n3 q)
  rw [← size]
  exact Heap.get?_push_size _ rfl
theorem later_end {z TI TO T0 i1 i2 l1 l2 : Addr} {k1 : Nat} {xs : Array Value} {o0 : Obj} {f : Bool} {Q : PySem.Fin → Shared → Prop} (hh : A.handled = none) (D : ZipApart z TI TO i1 i2 l1 l2)
    (isZ : s.heap.get? z = some (zob (rawInt T0) (.bool f) TI TO)) (there : s.heap.get? T0 = some o0) (two : IsPair s.heap TI (.ref i1) (.ref i2))
    (h1 : s.heap.IsTupleIter i1 l1 k1) (hl1 : s.heap.IsTuple l1 xs) (hx : xs[k1]? = none)
    (hE : ∀ h' e, (∀ c o, c ≠ z → c ≠ i1 → s.heap.get? c = some o → h'.get? c = some o) → (∃ o, h'.get? e = some o ∧ o.cls = .type "StopIteration") → E (.ref e) { s with heap := h' }) :
    wpAny (model prog w) A (Builtin.«zip.__next__» ⟨[.ref z], []⟩) Q E s := by
  show wpAny _ _ (field (.ref z) 2 >>= _) _ _ _
  refine wpAny_bind (wpAny_field isZ rfl (x := .bool false) rfl (?_))
  show wpAny _ _ (field (.ref z) 3 >>= _) _ _ _
  refine wpAny_bind (wpAny_field isZ rfl (x := .ref TI) rfl (?_))
  refine wpAny_bind (wpAny_seqItems two rfl (?_))
  show wpAny _ _ (Builtin.SmallTypes.ownedTupleIsFree (.ref z) >>= _) _ _ _
  refine wpAny_bind (held isZ there fun g₁ z₁ e₁ => ?_)
  simp only [Bool.false_eq_true, if_false]
  refine wpAny_bind ?_
  rw [← Array.forIn_toList]
  simp only [List.forIn_cons, List.forIn_nil]
  refine wpAny_bind (wpAny_bind (wpAny_holding ?_))
  show wpAny _ _ (Builtin.SmallTypes.nextOf (.ref i1) >>= _) _ _ _
  exact wpAny_bind (nextOf_tuple_end hh (h1.extBut e₁.extBut D.i1z) (hl1.extBut e₁.extBut D.l1z) hx fun g₂ e e₂ he => hE g₂ e (fun c o n1 n2 q => e₂ _ _ n2 (e₁.extBut _ _ n1 q)) he)
/-- zip's next, by pyNext -/
theorem pyNext_later_item {z TI TO T0 i1 i2 l1 l2 : Addr} {k1 k2 : Nat} {xs ys : Array Value} {x y : Value} {o0 : Obj} {f : Bool} {Q : Option Value → Shared → Prop} (D : ZipApart z TI TO i1 i2 l1 l2)
    (isZ : s.heap.get? z = some (zob (rawInt T0) (.bool f) TI TO)) (there : s.heap.get? T0 = some o0) (two : IsPair s.heap TI (.ref i1) (.ref i2))
    (h1 : s.heap.IsTupleIter i1 l1 k1) (h2 : s.heap.IsTupleIter i2 l2 k2) (hl1 : s.heap.IsTuple l1 xs) (hl2 : s.heap.IsTuple l2 ys) (hx : xs[k1]? = some x) (hy : ys[k2]? = some y)
    (hQ : ∀ h', h'.get? z = some (zob (rawInt T0) (.bool true) TI TO) → h'.IsTupleIter i1 l1 (k1 + 1) → h'.IsTupleIter i2 l2 (k2 + 1) → IsPair h' s.heap.objs.size x y → h'.objs.size = s.heap.objs.size + 1 →
      (∀ c o, c ≠ z → c ≠ i1 → c ≠ i2 → s.heap.get? c = some o → h'.get? c = some o) → Q (some (.ref s.heap.objs.size)) { s with heap := h' }) :
    wpAny (model prog w) A (pyNext (.ref z)) Q E s := by
  have isT : s.TypeIs (.ref z) "zip" := ⟨_, isZ, rfl⟩
  unfold pyNext
  exact wpAny_bind (wpAny_attempt (wpAny_callSpecial?_slot (name := Str.ofString "__next__") isT F.slot_zip_next (wpAny_call_entry F.slot_zip_next isT F.entry_zip_next
    (later_item D isZ there two h1 h2 hl1 hl2 hx hy fun h' a1 a2 a3 a4 a5 a6 => wpAny_pure (hQ h' a1 a2 a3 a4 a5 a6)) (F.args_zip_next_1 _))))
theorem pyNext_later_end {z TI TO T0 i1 i2 l1 l2 : Addr} {k1 : Nat} {xs : Array Value} {o0 : Obj} {f : Bool} {Q : Option Value → Shared → Prop} (hh : A.handled = none) (D : ZipApart z TI TO i1 i2 l1 l2)
    (isZ : s.heap.get? z = some (zob (rawInt T0) (.bool f) TI TO)) (there : s.heap.get? T0 = some o0) (two : IsPair s.heap TI (.ref i1) (.ref i2))
    (h1 : s.heap.IsTupleIter i1 l1 k1) (hl1 : s.heap.IsTuple l1 xs) (hx : xs[k1]? = none)
    (hQ : ∀ h', (∀ c o, c ≠ z → c ≠ i1 → s.heap.get? c = some o → h'.get? c = some o) → Q none { s with heap := h' }) : wpAny (model prog w) A (pyNext (.ref z)) Q E s := by
  have isT : s.TypeIs (.ref z) "zip" := ⟨_, isZ, rfl⟩
  unfold pyNext
  refine wpAny_bind (wpAny_attempt (wpAny_callSpecial?_slot (name := Str.ofString "__next__") isT F.slot_zip_next (wpAny_call_entry F.slot_zip_next isT F.entry_zip_next
    (later_end hh D isZ there two h1 hl1 hx fun h' e kept isStop => ?_) (F.args_zip_next_1 _))))
  obtain ⟨o, ho, hc⟩ := isStop
  exact wpAny_bind (wpAny_isInstance (T := "StopIteration") (b := true) ⟨o, ho, hc⟩ isSubtype_stop (wpAny_pure (hQ _ kept)))
end
end Zl
namespace Zl
open PySem PySem.Calls PyProof.Rows RZ L2
theorem zip_no_len : typeLookup (.type "zip") "__len__" = pure none := by rw [typeLookup_type, builtinLookup_eq_fast]; kernel_rfl
theorem zip_no_hint : typeLookup (.type "zip") "__length_hint__" = pure none := by rw [typeLookup_type, builtinLookup_eq_fast]; kernel_rfl
section
variable {X : L2.Cx} {pins : List (Addr × Obj)} {σ : L2.St}
/-- zip's five objects, k pairs handed out; T0: the first of them -/
def Zst (h : Heap) (z TI TO i1 i2 a b : Addr) (ps : List Addr) : Prop :=
  IsPair h TI (.ref i1) (.ref i2) ∧ h.IsTupleIter i1 a ps.length ∧ h.IsTupleIter i2 b ps.length ∧
  (∃ u v, IsPair h TO u v) ∧ match ps with
  | [] => IsZip h z TI TO .none
  | p :: _ => ∃ f, h.get? z = some (zob (rawInt p) (.bool f) TI TO)
theorem drain {z TI TO i1 i2 a b S : Addr} {xs ys : List V} {H0 : Hp} {B : Around} {R : Result → Shared → Prop} {res : Value} (hh : B.handled = none) (D : ZipApart z TI TO i1 i2 a b) (hS : S ∉ [z, TI, TO, i1, i2, a, b]) (hl : xs.length = ys.length) (hz : xs.length ≤ 1000)
    (hend : ∀ s' H' (ps : List Addr) (acc : Array Value) c, ps.length = xs.length → Inv X pins σ H' s' → FpOk X pins H' S → s'.heap.get? S = some (lstObj acc c) → Vals (ps.map V.ref) acc.toList → (∀ c o, H0 c = some o → H' c = some o) →
      (∀ (i : Nat) p x y, ps[i]? = some p → xs[i]? = some x → ys[i]? = some y → H' p = some (.tup [x, y])) → R (.ok (.ret res)) s') :
    ∀ (m : Nat) (s : Shared) (H : Hp) (ps : List Addr) (acc : Array Value) c, ps.length + m = xs.length → Inv X pins σ H s → (∀ c ∈ [z, TI, TO, i1, i2, S], FpOk X pins H c) → SqT X.K H a xs → SqT X.K H b ys → Zst s.heap z TI TO i1 i2 a b ps → s.heap.get? S = some (lstObj acc c) → Vals (ps.map V.ref) acc.toList → (∀ c o, H0 c = some o → H c = some o) →
      (∀ (i : Nat) p x y, ps[i]? = some p → xs[i]? = some x → ys[i]? = some y → H p = some (.tup [x, y])) → codeAny (model X.prog X.w) B (.builtin "list.extend.loop" ⟨[.ref S, .ref z, res], []⟩) R s := by
  have Sz : S ≠ z := fun e => hS (by simp [e])
  have STI : S ≠ TI := fun e => hS (by simp [e])
  have STO : S ≠ TO := fun e => hS (by simp [e])
  have Si1 : S ≠ i1 := fun e => hS (by simp [e])
  have Si2 : S ≠ i2 := fun e => hS (by simp [e])
  intro m
  induction m with
  | zero =>
    intro s H ps acc c count I fp hx hy st here rv old pairs
    refine codeAny_builtin F.entry_extend_loop ?_
    rw [Around.under_plainId F.plain_extend_loop _]
    show wpAny _ B.in1 (pyNext (.ref z) >>= _) _ _ s
    obtain ⟨its, rx, tx, _⟩ := I.tuple hx
    obtain ⟨its2, ry, ty, _⟩ := I.tuple hy
    have lx := rx.length
    have none_ : its.toArray[ps.length]? = none := by simp; omega
    obtain ⟨tI, a1, a2, ⟨u', v', tO⟩, own⟩ := st
    have fin : ∀ h', (∀ c o, c ≠ z → c ≠ TO → c ≠ i1 → c ≠ i2 → s.heap.get? c = some o → h'.get? c = some o) → R (.ok (.ret res)) { s with heap := h' } := fun h' k => by
      refine hend _ H ps acc c (by omega) (I.turnedL (t' := s.toks) (ch := [z, TI, TO, i1, i2]) (fun c o hc q => ?_) fun c hc => fp c ?_) (fp S (by simp)) (k S _ Sz STO Si1 Si2 here) rv old pairs
      · simp only [List.mem_cons, List.not_mem_nil, or_false, not_or] at hc
        exact k c o hc.1 hc.2.2.1 hc.2.2.2.1 hc.2.2.2.2 q
      · simp only [List.mem_cons, List.not_mem_nil, or_false] at hc ⊢
        rcases hc with hc | hc | hc | hc | hc <;> simp [hc]
    cases ps with
    | nil =>
      exact wpAny_bind (pyNext_zipT_end hh D own tI tO a1 a2 tx ty (.inl none_) fun h' k => wpAny_pure (fin h' k))
    | cons p qs =>
      obtain ⟨f, isZ⟩ := own
      have x0 : ∃ x, xs[0]? = some x := ⟨_, List.getElem?_eq_getElem (by simp at count; omega)⟩
      have y0 : ∃ y, ys[0]? = some y := ⟨_, List.getElem?_eq_getElem (by simp at count; omega)⟩
      obtain ⟨x0, x0'⟩ := x0
      obtain ⟨y0, y0'⟩ := y0
      obtain ⟨_, _, ⟨o0, there, _⟩, _⟩ := I.tuple (SqT.of (K := X.K) (pairs 0 p x0 y0 rfl x0' y0'))
      exact wpAny_bind (pyNext_later_end hh D isZ there tI a1 tx none_ fun h' k => wpAny_pure (fin h' fun c o n1 n2 n3 n4 q => k c o n1 n3 q))
  | succ m ih =>
    intro s H ps acc c count I fp hx hy st here rv old pairs
    refine codeAny_builtin F.entry_extend_loop ?_
    rw [Around.under_plainId F.plain_extend_loop _]
    show wpAny _ B.in1 (pyNext (.ref z) >>= _) _ _ s
    obtain ⟨its, rx, tx, _⟩ := I.tuple hx
    obtain ⟨its2, ry, ty, _⟩ := I.tuple hy
    have hx1 : xs[ps.length]? = some xs[ps.length] := List.getElem?_eq_getElem (by omega)
    have hy1 : ys[ps.length]? = some ys[ps.length] := List.getElem?_eq_getElem (by omega)
    obtain ⟨u, hu, ru⟩ := rx.get hx1
    obtain ⟨u2, hu2, ru2⟩ := ry.get hy1
    obtain ⟨tI, a1, a2, ⟨u', v', tO⟩, own⟩ := st
    have la : acc.size = ps.length := by
      have := rv.length
      rw [List.length_map, Array.length_toList] at this
      exact this.symm
    have hT : H s.heap.objs.size = none := I.hok.fresh (Nat.le_refl _)
    have zlt : z < s.heap.objs.size := by
      cases ps with
      | nil => exact Heap.lt_size own
      | cons p qs => obtain ⟨f, q⟩ := own; exact Heap.lt_size q
    have i1lt : i1 < s.heap.objs.size := by obtain ⟨_, q, _⟩ := a1; exact Heap.lt_size q
    have i2lt : i2 < s.heap.objs.size := by obtain ⟨_, q, _⟩ := a2; exact Heap.lt_size q
    have old_ : ∀ c ∈ [z, TI, TO, i1, i2, S], c < s.heap.objs.size := fun c hc => by
      simp only [List.mem_cons, List.not_mem_nil, or_false] at hc
      rcases hc with rfl | rfl | rfl | rfl | rfl | rfl
      · exact zlt
      · exact Heap.lt_size tI
      · exact Heap.lt_size tO
      · exact i1lt
      · exact i2lt
      · exact Heap.lt_size here
    have on : ∀ (h' : Heap) (p0 : Addr) (f : Bool), ((ps = [] ∧ p0 = s.heap.objs.size) ∨ ps.head? = some p0) → h'.get? z = some (zob (rawInt p0) (.bool f) TI TO) → (∃ u v, IsPair h' TO u v) → h'.IsTupleIter i1 a (ps.length + 1) → h'.IsTupleIter i2 b (ps.length + 1) → IsPair h' s.heap.objs.size u u2 →
        (∀ c o, c ≠ z → c ≠ TO → c ≠ i1 → c ≠ i2 → s.heap.get? c = some o → h'.get? c = some o) →
        wpAny (model X.prog X.w) B.in1 (updateSeq S (·.push (.ref s.heap.objs.size)) >>= fun _ => again (.builtin "list.extend.loop" ⟨[.ref S, .ref z, res], []⟩)) (fun fin s' => match fin with
          | .done f => R (.ok f) s'
          | .again c' => c'.quiet = true ∧ codeAny (model X.prog X.w) B c' R s') (fun e s' => R (.error e) s') { s with heap := h' } := by
      intro h' p0 f first isZ tO' b1 b2 pair kept
      have new : ObjOk X.prog X.w (upd H s.heap.objs.size (.tup [xs[ps.length], ys[ps.length]])) h' s.heap.objs.size (.tup [xs[ps.length], ys[ps.length]]) := ⟨by show 2 ≤ sizeLine; decide, [u, u2], .cons ru (.cons ru2 .nil), ⟨_, pair, rfl, _, rfl⟩⟩
      have I1 : Inv X pins σ (upd H s.heap.objs.size (.tup [xs[ps.length], ys[ps.length]])) { s with heap := h' } := I.turnedNew (t' := s.toks) (ch := [z, TI, TO, i1, i2]) (fun c o hc q => by
        simp only [List.mem_cons, List.not_mem_nil, or_false, not_or] at hc
        exact kept c o hc.1 hc.2.2.1 hc.2.2.2.1 hc.2.2.2.2 q) (fun c hc => fp c (by
        simp only [List.mem_cons, List.not_mem_nil, or_false] at hc ⊢
        rcases hc with hc | hc | hc | hc | hc <;> simp [hc])) (Nat.le_refl _) new
      have here' := kept S _ Sz STO Si1 Si2 here
      have fp' : ∀ c ∈ [z, TI, TO, i1, i2, S], FpOk X pins (upd H s.heap.objs.size (.tup [xs[ps.length], ys[ps.length]])) c := fun c hc => ⟨by rw [upd_ne (Nat.ne_of_lt (old_ c hc))]; exact (fp c hc).1, (fp c hc).2⟩
      have keep3 : ∀ c o, c ≠ S → h'.get? c = some o → (h'.update S (Obj.mapSeq (·.push (.ref s.heap.objs.size)))).get? c = some o := fun c o n q => (Heap.get?_update_other _ _ (Ne.symm n)).trans q
      have I2 : Inv X pins σ (upd H s.heap.objs.size (.tup [xs[ps.length], ys[ps.length]])) { s with heap := h'.update S (Obj.mapSeq (·.push (.ref s.heap.objs.size))) } := Inv.turnedL (s := { s with heap := h' }) (t' := s.toks) (ch := [S]) I1 (fun c o hc q => keep3 c o (by simpa using hc) q) fun c hc => fp' c (by rw [List.mem_singleton.mp hc]; simp)
      refine wpAny_bind (wpAny_updateSeq here' rfl (wpAny_pure ⟨plainId_quiet F.plain_extend_loop _, ?_⟩) (by show acc.size ≤ sizeLine; rw [la]; exact Nat.le_trans (show ps.length ≤ 1000 by omega) (by decide)) (by show (acc.push _).size ≤ sizeLine + 1; rw [Array.size_push, la]; exact Nat.le_trans (show ps.length + 1 ≤ 1001 by omega) (by decide)))
      refine ih _ _ (ps ++ [s.heap.objs.size]) (acc.push (.ref s.heap.objs.size)) _ (by simp; omega) I2 fp' (My.tOver hT hx) (My.tOver hT hy) ⟨keep3 _ _ STI.symm (kept _ _ D.TIz D.TITO D.TIi1 D.TIi2 tI), ?_, ?_, ?_, ?_⟩ (Heap.get?_update_self _ here' rfl) ?_ (fun c o q => ?_) fun i p x y e1 e2 e3 => ?_
      · rw [List.length_append]
        exact b1.at fun o q => keep3 _ o Si1.symm q
      · rw [List.length_append]
        exact b2.at fun o q => keep3 _ o Si2.symm q
      · obtain ⟨u', v', q⟩ := tO'
        exact ⟨u', v', keep3 _ _ STO.symm q⟩
      · cases ps with
        | nil =>
          rcases first with ⟨_, e⟩ | e
          · subst e
            exact ⟨f, keep3 _ _ Sz.symm isZ⟩
          · cases e
        | cons p qs =>
          rcases first with ⟨e, _⟩ | e
          · cases e
          · injection e with e
            subst e
            exact ⟨f, keep3 _ _ Sz.symm isZ⟩
      · rw [Array.toList_push, List.map_append]
        exact rv.append (.cons rfl .nil)
      · rw [upd_ne (ne_of_none (old c o q) hT)]
        exact old c o q
      · by_cases q : i < ps.length
        · rw [List.getElem?_append_left q] at e1
          have := pairs i p x y e1 e2 e3
          rw [upd_ne (ne_of_none this hT)]
          exact this
        · rw [List.getElem?_append_right (by omega)] at e1
          have e4 : i = ps.length := by
            have := (List.getElem?_eq_some_iff.mp e1).1
            simp at this
            omega
          subst e4
          rw [Nat.sub_self] at e1
          cases e1
          rw [hx1] at e2
          rw [hy1] at e3
          cases e2
          cases e3
          exact upd_same
    cases ps with
    | nil => exact wpAny_bind (pyNext_zipT_item D own tI tO a1 a2 tx ty (by simpa using hu) (by simpa using hu2) fun h' z' o' b1 b2 pair _ kept => on h' _ false (.inl ⟨rfl, rfl⟩) z' ⟨_, _, o'⟩ b1 b2 pair kept)
    | cons p qs =>
      obtain ⟨f, isZ⟩ := own
      obtain ⟨x0, x0'⟩ : ∃ x, xs[0]? = some x := ⟨_, List.getElem?_eq_getElem (by omega)⟩
      obtain ⟨y0, y0'⟩ : ∃ y, ys[0]? = some y := ⟨_, List.getElem?_eq_getElem (by omega)⟩
      obtain ⟨_, _, ⟨o0, there, _⟩, _⟩ := I.tuple (SqT.of (K := X.K) (pairs 0 p x0 y0 rfl x0' y0'))
      exact wpAny_bind (pyNext_later_item D isZ there tI a1 a2 tx ty (by simpa using hu) (by simpa using hu2) fun h' z' b1 b2 pair _ kept => on h' p true (.inr rfl) z' ⟨_, _, kept _ _ D.TOz D.TOi1 D.TOi2 tO⟩ b1 b2 pair fun c o n1 _ n3 n4 q => kept c o n1 n3 n4 q)
/-- a list of ours that was not followed is followed now -/
theorem tracked {S : Addr} {H : Hp} {s : Shared} {acc : Array Value} {c : Nat} {out : List V} (I : Inv X pins σ H s) (f : FpOk X pins H S) (e : s.heap.get? S = some (lstObj acc c)) (r : Vals out acc.toList) (size : out.length ≤ sizeLine) : Inv X pins σ (upd H S (.lst out)) s := by
  have free := f.1
  refine I.call' (ch := [S]) rfl ⟨fun b o q _ _ _ => q, fun b o q _ _ _ => ⟨o.slots, q⟩, fun b o _ n hx => ?_, fun b o q _ => ⟨o, q⟩, fun b xs q => ?_, fun b o u q => ?_, fun b ps q => ⟨#[], ?_⟩⟩ (fun b u q => ?_) I.bare fun b hb => ?_
  · rw [upd_ne (by simpa using hx)]; exact n
  · rw [upd_ne (ne_of_none q free)]; exact q
  · rw [upd_ne (ne_of_none q free)]; exact q
  · rw [upd_ne (ne_of_none q free), q]; simp
  · by_cases same : b = S
    · subst same
      rw [upd_same] at q
      cases q
      exact ⟨size, acc.toList, c, r, by rw [e]⟩
    · rw [upd_ne same] at q
      exact (I.hok b u q).stay (fun _ _ _ k => k) (fun d k => by rw [upd_ne (ne_of_none k free)]; exact k) (fun d xs k => by rw [upd_ne (ne_of_none k free)]; exact k)
  · rw [List.mem_singleton.mp hb]
    exact ⟨f.2.2.2.1, f.2.1, f.2.2.2.2.1, f.2.2.2.2.2⟩
theorem list_of_zip {H : Hp} {s : Shared} {z TI TO i1 i2 a b : Addr} {xs ys : List V} {Q : VK} (hh : X.A.handled = none) (I : Inv X pins σ H s) (D : ZipApart z TI TO i1 i2 a b) (fp : ∀ c ∈ [z, TI, TO, i1, i2], FpOk X pins H c) (hx : SqT X.K H a xs) (hy : SqT X.K H b ys) (hl : xs.length = ys.length) (hz : xs.length ≤ 1000)
    (st : Zst s.heap z TI TO i1 i2 a b [])
    (goal : ∀ S (ps : List Addr) H', ps.length = xs.length → (∀ c o, H c = some o → H' c = some o) → (∀ (i : Nat) p x y, ps[i]? = some p → xs[i]? = some x → ys[i]? = some y → H' p = some (.tup [x, y])) → H' S = none → Q (.ref S) (upd H' S (.lst (ps.map V.ref)))) :
    wpAny (model X.prog X.w) X.A (call (.type "list") [.ref z]) (EP X pins σ Q) X.xe s := by
  obtain ⟨tI, a1, a2, ⟨u', v', tO⟩, isZ⟩ := id st
  have zlt : z < s.heap.objs.size := Heap.lt_size isZ
  have Sz : s.heap.objs.size ≠ z := Nat.ne_of_gt zlt
  refine callType_codes (Q₁ := fun made s₁ => made = .ref s.heap.objs.size ∧ s₁ = { s with heap := s.heap.push { cls := .type "list", data := .seq #[] } }) F.called_list (F.typeCall_list_1 _) F.entry_list_init (code_list_new _ (⟨rfl, rfl⟩)) fun made s₁ told => ?_
  obtain ⟨rfl, rfl⟩ := told
  have born : (s.heap.push { cls := .type "list", data := .seq #[] }).get? s.heap.objs.size = some { cls := .type "list", data := .seq #[] } := Heap.get?_push_size _ (rfl)
  refine ⟨⟨_, born, rfl⟩, F.args_list_init_2 _ _, ?_⟩
  show wpAny _ X.A.in1.in1 (do let before ← Builtin.List.listItems (.ref s.heap.objs.size); Builtin.List.listUpdate (.ref s.heap.objs.size) (fun _ => #[]); letGo before.toList.reverse; Builtin.List.listExtendWith (.ref s.heap.objs.size) (.ref z) .none) _ _ _
  refine wpAny_bind (?_)
  unfold Builtin.List.listItems
  refine wpAny_bind (wpAny_seqItems born rfl (wpAny_pure (?_)))
  show wpAny _ X.A.in1.in1 (updateSeq s.heap.objs.size (fun _ => #[]) >>= fun _ => letGo (#[] : Array Value).toList.reverse >>= fun _ => Builtin.List.listExtendWith (.ref s.heap.objs.size) (.ref z) .none) _ _ _
  refine wpAny_bind (wpAny_updateSeq born rfl (?_))
  have born2 := Heap.get?_update_self (Obj.mapSeq (fun _ => (#[] : Array Value))) born (rfl)
  refine wpAny_bind (wpAny_letGo (?_))
  unfold Builtin.List.listExtendWith
  have over : ∀ (h : Heap) (f : Obj → Obj), (∀ c o, s.heap.get? c = some o → h.get? c = some o) → ∀ c o, s.heap.get? c = some o → (h.update s.heap.objs.size f).get? c = some o := fun h f k c o e =>
    (Heap.get?_update_other _ _ (Ne.symm (Nat.ne_of_lt (Heap.lt_size e)))).trans (k c o e)
  have kept1 : ∀ c o, s.heap.get? c = some o → (s.heap.push { cls := .type "list", data := .seq #[] }).get? c = some o := fun c o e => Heap.get?_push_of_some _ (e)
  have kept2 := over _ (Obj.mapSeq (fun _ => (#[] : Array Value))) kept1
  have isT : ∀ {h : Heap}, (∀ c o, s.heap.get? c = some o → h.get? c = some o) → ({ s with heap := h } : Shared).TypeIs (.ref z) "zip" := fun {h} k => ⟨_, k _ _ isZ, rfl⟩
  refine wpAny_bind (wpAny_typeOf (isT kept2) (?_))
  have no1 : Builtin.List.listSameRef (.ref s.heap.objs.size) (.ref z) = false := by simp [Builtin.List.listSameRef, Sz]
  have no2 : (Value.type "zip" == Value.type "list") = false := by decide
  have no3 : (Value.type "zip" == Value.type "tuple") = false := by decide
  simp only [no1, no2, no3, Bool.or_false, Bool.false_eq_true, if_false]
  refine wpAny_bind (wpAny_pyIter_zip (s := { s with heap := _ }) (kept2 _ _ isZ) (?_))
  refine wpAny_bind (wpAny_holding (?_))
  unfold Builtin.List.listLengthHint
  refine wpAny_bind (wpAny_specialOf (isT kept2) zip_no_len (?_))
  show wpAny _ X.A.in1.in1 (specialOf (Value.ref z) (Str.ofString "__length_hint__") >>= _) _ _ _
  refine wpAny_bind (wpAny_specialOf (isT kept2) zip_no_hint (?_))
  refine wpAny_pure (?_)
  show wpAny _ X.A.in1.in1 (rule "list.extend.makes-room" >>= fun _ => Builtin.List.listTouch (.ref s.heap.objs.size) >>= fun _ => again (.builtin "list.extend.loop" ⟨[.ref s.heap.objs.size, .ref z, .none], []⟩)) _ _ _
  refine wpAny_bind (wpAny_rule (?_))
  refine wpAny_bind (?_)
  show wpAny _ X.A.in1.in1 (updateSeq s.heap.objs.size (·.push .none) >>= fun _ => updateSeq s.heap.objs.size (·.pop)) _ _ _
  refine wpAny_bind (wpAny_updateSeq born2 rfl (?_))
  have born3 := Heap.get?_update_self (Obj.mapSeq (·.push Value.none)) born2 (rfl)
  refine wpAny_updateSeq (hz := by seq_fits) born3 rfl (?_)
  have born4 := Heap.get?_update_self (Obj.mapSeq (·.pop)) born3 (rfl)
  have kept4 := over _ (Obj.mapSeq (·.pop)) (over _ (Obj.mapSeq (·.push Value.none)) kept2)
  refine wpAny_pure ⟨plainId_quiet F.plain_extend_loop _, ?_⟩
  have newS : FpOk X pins H s.heap.objs.size := I.fpOk (Nat.le_refl _) (I.hok.fresh (Nat.le_refl _))
  have ofS : ∀ c o, s.heap.get? c = some o → s.heap.objs.size ≠ c := fun c o q => Nat.ne_of_gt (Heap.lt_size q)
  have ofT : ∀ {t : Addr} {ws : List V}, SqT X.K H t ws → s.heap.objs.size ≠ t := fun {t ws} q => by
    obtain ⟨_, _, p, _⟩ := I.tuple q
    exact Nat.ne_of_gt p.lt
  refine drain (X := X) (pins := pins) (σ := σ) (S := s.heap.objs.size) (H0 := H) (B := X.A.in1) hh D ?_ hl hz (fun s' H' ps acc c e1 I' fS e2 rv old pairs => ⟨rfl, .ref s.heap.objs.size, _, tracked I' fS e2 rv (by rw [List.length_map, e1]; exact Nat.le_trans hz (by decide)), rfl, goal _ ps H' e1 old pairs fS.1⟩) xs.length _ H [] _ _ (by simp) (I.kept (t' := s.toks) kept4) ?_ hx hy ⟨kept4 _ _ tI, ?_, ?_, ⟨u', v', kept4 _ _ tO⟩, kept4 _ _ isZ⟩ born4 .nil (fun _ _ q => q) (fun i p x y q => by cases q)
  · simp only [List.mem_cons, List.not_mem_nil, or_false, not_or]
    obtain ⟨_, q1, _⟩ := a1
    obtain ⟨_, q2, _⟩ := a2
    exact ⟨Sz, ofS _ _ tI, ofS _ _ tO, ofS _ _ q1, ofS _ _ q2, ofT hx, ofT hy⟩
  · intro c hc
    simp only [List.mem_cons, List.not_mem_nil, or_false] at hc
    rcases hc with rfl | rfl | rfl | rfl | rfl | rfl
    · exact fp _ (by simp)
    · exact fp _ (by simp)
    · exact fp _ (by simp)
    · exact fp _ (by simp)
    · exact fp _ (by simp)
    · exact newS
  · exact a1.at fun o q => kept4 _ o q
  · exact a2.at fun o q => kept4 _ o q
end
end Zl
namespace Zl
open PySem PySem.Calls PyProof.Rows RZ L2
/-- list(zip(t, u)), two tuples of one length: the pairs are new -/
def tListZip (K : PySem.W.Frag) (ta : TA) : TE := fun σ H Q => ta σ H fun vs H1 => ∃ a b xs ys, vs = [.ref a, .ref b] ∧ SqT K H1 a xs ∧ SqT K H1 b ys ∧ xs.length = ys.length ∧ xs.length ≤ 1000 ∧
  ∀ S (ps : List Addr) H', ps.length = xs.length → (∀ c o, H1 c = some o → H' c = some o) → (∀ (i : Nat) p x y, ps[i]? = some p → xs[i]? = some x → ys[i]? = some y → H' p = some (.tup [x, y])) → H' S = none → Q (.ref S) (upd H' S (.lst (ps.map V.ref)))
section
variable {X : L2.Cx}
theorem pe_listZip {e e2 : Expr} {ta : TA} {p p0 pos pos0 : Pos} (hc : X.calm = true) (hgl : Gl X "list") (hml : X.mg "list" = none) (hg : Gl X "zip") (hm : X.mg "zip" = none) (ha : PA X [e, e2] ta)
    (he : starEach [.Call (.Name "zip" p) [e, e2] [] pos] X.env = (false, eval (.Call (.Name "zip" p) [e, e2] [] pos) X.env) :: starEach [] X.env := by rfl)
    (hs : starEach [e, e2] X.env = (false, eval e X.env) :: starEach [e2] X.env := by rfl) (hpl : (backTo pos (starEach [e2] X.env)).any (·.1) = false := by rfl) :
    PE X (.Call (.Name "list" p0) [.Call (.Name "zip" p) [e, e2] [] pos] [] pos0) (tListZip X.K ta) := by
  refine ⟨fun pins s σ H Q I h => ?_⟩
  have isList : bootBuiltins "list" = some (.type "list") := by decide +kernel
  refine wpAny_Call_Name_kw (ld_blt I hgl hml isList ?_ (by decide) (by decide))
  refine PyProof.Rows.callWith_type1 ?_ he (by rfl)
  rw [he]
  show wpAny _ _ (spliced ((false, eval (.Call (.Name "zip" p) [e, e2] [] pos) X.env) :: backTo pos0 (starEach [] X.env))) _ _ s
  refine Calls.spliced_cons ?_
  refine wpAny_Call_Name_kw (ld_blt I hg hm PyProof.Rows.boot_zip ?_ (by decide) (by decide))
  refine PyProof.Rows.callWith_type1 (thn (ha.run pos pins s σ H _ I h) fun us s1 ⟨vs, H1, I1, r1, q1⟩ => ?_) hs hpl
  obtain ⟨a, b, xs, ys, ex, hx, hy, hl, hz, goal⟩ := q1
  subst ex
  cases r1 with
  | cons r rr =>
    cases rr with
    | cons r' rr =>
      cases rr
      cases r
      cases r'
      obtain ⟨its, rv, p1, _⟩ := I1.tuple hx
      obtain ⟨its2, rv2, p2, _⟩ := I1.tuple hy
      obtain ⟨o1, ho1, _⟩ := id p1
      obtain ⟨o2, ho2, _⟩ := id p2
      refine call_zipT (show s1.heap.IsTuple a its.toArray from p1) (show s1.heap.IsTuple b its2.toArray from p2) fun h' z tI tO a1 a2 hsz hk => ?_
      refine Calls.spliced_nil ?_
      have I2 : Inv X pins σ H1 { s1 with heap := h' } := I1.kept (t' := s1.toks) hk
      refine list_of_zip (s := { s1 with heap := h' }) (I1.ok.hd hc) I2 (PySem.W.ktu_apart s1.heap.objs.size a b (Heap.lt_size ho1) (Heap.lt_size ho2)) (fun c hcm => ?_) hx hy hl hz ⟨tI, a1, a2, ⟨_, _, tO⟩, z⟩ goal
      have base : s1.heap.objs.size ≤ c := by
        simp only [List.mem_cons, List.not_mem_nil, or_false] at hcm
        rcases hcm with q | q | q | q | q <;> rw [q]
        · exact Nat.le_add_right _ 4
        · exact Nat.le_add_right _ 2
        · exact Nat.le_add_right _ 3
        · exact Nat.le_refl _
        · exact Nat.le_add_right _ 1
      exact I1.fpOk base (I1.hok.fresh base)
end
end Zl
namespace HT
open PySem PySem.Calls PyProof.Rows PySem.W L2
theorem back_items (xs : Array Value) : ((List.range xs.size).filterMap fun (k : Nat) => xs[(((xs.size : Int) - 1) + (k : Int) * (-1)).toNat]?).toArray = xs.toList.reverse.toArray := by
  congr 1
  have e : ∀ k ∈ List.range xs.size, xs[(((xs.size : Int) - 1) + (k : Int) * (-1)).toNat]? = (xs.toList.reverse)[k]? := by
    intro k hk
    have hk := List.mem_range.mp hk
    rw [List.getElem?_reverse (by simpa using hk), Array.getElem?_toList, Array.length_toList]
    congr 1
    omega
  have e2 : (List.range xs.size).filterMap (fun (k : Nat) => xs[(((xs.size : Int) - 1) + (k : Int) * (-1)).toNat]?) = (List.range xs.size).filterMap (fun k => (xs.toList.reverse)[k]?) := by
    have fm : ∀ (l : List Nat) (f g : Nat → Option Value), (∀ k ∈ l, f k = g k) → l.filterMap f = l.filterMap g := by
      intro l f g h
      induction l with
      | nil => rfl
      | cons a l ih => rw [List.filterMap_cons, List.filterMap_cons, h a (by simp), ih (fun k hk => h k (by simp [hk]))]
    exact fm _ _ _ e
  rw [e2]
  have : ∀ (l : List Value), (List.range l.length).filterMap (fun k => l[k]?) = l := by
    intro l
    induction l with
    | nil => rfl
    | cons a l ih =>
      rw [List.length_cons, List.range_succ_eq_map, List.filterMap_cons]
      show a :: _ = _
      rw [List.filterMap_map]
      congr 1
  have h := this xs.toList.reverse
  rw [List.length_reverse, Array.length_toList] at h
  exact h
section
variable {prog : Program} {w : World} {A : Around} {E : Value → Shared → Prop} {s : Shared}
theorem back_tuple {tup cutter : Addr} {xs : Array Value} {st : Value} {Q : Value → Shared → Prop} (isTup : IsTup s.heap tup xs) (isCut : s.heap.IsSliceOf cutter .none .none st) (minus : IsPart st (some (-1))) (some_ : 1 ≤ xs.size) (few : xs.size ≤ sizeLine)
    (h : Q (.ref s.heap.objs.size) { s with heap := s.heap.push { cls := .type "tuple", data := .seq xs.toList.reverse.toArray } }) : wpAny (model prog w) A (getItem (.ref tup) (.ref cutter)) Q E s := by
  obtain ⟨oc, hoc, hcc, hdc⟩ := id isCut
  have isS : s.TypeIs (.ref cutter) "slice" := ⟨oc, hoc, hcc⟩
  unfold getItem
  try with_reducible refine wpAny_holding ?_
  first | refine wpAny_bind (wpAny_pure ?_) | skip
  refine wpAny_bind (wpAny_sequenceKey isTup.typeIs (by decide) (?_))
  refine wpAny_bind (wpAny_callSpecial?_slot (name := Str.ofString "__getitem__") isTup.typeIs PyProof.Rows.slot_tuple_getitem (wpAny_call_entry PyProof.Rows.slot_tuple_getitem isTup.typeIs entry_tuple_getitem ?_ (args_tuple_getitem _ _)))
  show wpAny _ _ (Builtin.Tuple.tupleItemsOf (.ref tup) >>= _) _ _ s
  refine wpAny_bind (tupleItemsOf_ isTup ?_)
  refine wpAny_bind (wpAny_typeOf isS (?_))
  rw [if_pos (by decide)]
  have parts : ∀ E' : Value → Shared → Prop, wpAny (model prog w) A.in1 (Builtin.Slice.sliceApplied (.ref cutter) (pure ((xs.size : Nat) : Int))) (fun r s' => r = (((xs.size : Int) - 1), (-1 : Int), xs.size) ∧ s' = s) E' s := by
    intro E'
    unfold Builtin.Slice.sliceApplied Builtin.Slice.sliceFields
    refine wpAny_bind (wpAny_bind (wpAny_field hoc hdc (x := Value.none) rfl (wpAny_bind (wpAny_field hoc hdc (x := Value.none) rfl (wpAny_bind (wpAny_field hoc hdc (x := st) rfl (wpAny_pure ?_)))))))
    refine wpAny_bind (slicePart_ minus ?_)
    show wpAny _ _ (if ((-1 : Int) == 0) = true then _ else _) _ _ s
    rw [if_neg (by decide)]
    refine wpAny_bind (slicePart_none (wpAny_bind (slicePart_none (wpAny_bind (wpAny_pure (wpAny_pure ⟨?_, rfl⟩))))))
    simp [Builtin.Slice.slicePlaces]
    omega
  refine wpAny_bind (wpAny_mono (parts _) (fun r s' z => ?_) fun _ _ e => e)
  obtain ⟨rfl, rfl⟩ := z
  show wpAny _ _ (if (((xs.size : Int) - 1) == 0 && (-1 : Int) == 1 && xs.size == xs.size) = true then _ else _) _ _ s'
  rw [if_neg (by rw [show ((-1 : Int) == 1) = false from rfl, Bool.and_false, Bool.false_and]; decide)]
  rw [back_items]
  have size : sizeOk (.seq xs.toList.reverse.toArray) := by
    show xs.toList.reverse.toArray.size ≤ sizeLine
    rw [List.size_toArray, List.length_reverse, Array.length_toList]
    exact few
  first
    | exact wpAny_bind (m := Builtin.Tuple.tupleExact _) (wpAny_newObj_type (wpAny_pure ⟨_, rfl, wpAny_pure h⟩) size)
    | exact wpAny_bind (m := Builtin.Tuple.tupleExact _) (wpAny_newObj_type (wpAny_bind (wpAny_pure (wpAny_pure ⟨_, rfl, wpAny_pure h⟩))) size)
    | exact wpAny_bind (wpAny_bind (m := Builtin.Tuple.tupleExact _) (wpAny_newObj_type (wpAny_pure (wpAny_pure ⟨_, rfl, wpAny_pure h⟩)) size))
    | exact wpAny_bind (wpAny_bind (m := Builtin.Tuple.tupleExact _) (wpAny_newObj_type (wpAny_pure ⟨_, rfl, wpAny_pure h⟩) size))
end
end HT
namespace My
open PySem L2
/-! ## twice the area that a row of points goes around -/
def cr (u w : Zp) : Int := u.2.1 * w.2.2 - u.2.2 * w.2.1
/-- along a row -/
def along : List Zp → Int
  | u :: w :: r => cr u w + along (w :: r)
  | _ => 0
/-- around: from the last to the first, too -/
def around (zs : List Zp) : Int := match zs.getLast? with
  | some l => along (l :: zs)
  | none => 0
theorem along_cons2 (u w : Zp) (r : List Zp) : along (u :: w :: r) = cr u w + along (w :: r) := rfl
theorem along_app : ∀ (as : List Zp) (u : Zp) (bs : List Zp), along (as ++ u :: bs) = along (as ++ [u]) + along (u :: bs)
  | [], u, bs => by
    show along (u :: bs) = 0 + along (u :: bs)
    omega
  | [a], u, bs => by
    show cr a u + along (u :: bs) = cr a u + 0 + along (u :: bs)
    omega
  | a :: b :: as, u, bs => by
    have := along_app (b :: as) u bs
    show cr a b + along ((b :: as) ++ u :: bs) = cr a b + along ((b :: as) ++ [u]) + along (u :: bs)
    omega
theorem around_snoc (as : List Zp) (l : Zp) : around (as ++ [l]) = along (l :: (as ++ [l])) := by
  unfold around
  rw [List.getLast?_append]
  rfl
/-- begun elsewhere -/
theorem around_turned (as bs : List Zp) : around (bs ++ as) = around (as ++ bs) := by
  rcases List.eq_nil_or_concat as with rfl | ⟨as', a, rfl⟩
  · rw [List.append_nil, List.nil_append]
  rcases List.eq_nil_or_concat bs with rfl | ⟨bs', b, rfl⟩
  · rw [List.append_nil, List.nil_append]
  rw [List.concat_eq_append, List.concat_eq_append]
  rw [← List.append_assoc, around_snoc, ← List.append_assoc (as' ++ [a]), around_snoc]
  have e1 : a :: (bs' ++ [b] ++ as' ++ [a]) = (a :: bs') ++ b :: (as' ++ [a]) := by simp
  have e2 : b :: (as' ++ [a] ++ bs' ++ [b]) = (b :: as') ++ a :: (bs' ++ [b]) := by simp
  have h1 := along_app (a :: bs') b (as' ++ [a])
  have h2 := along_app (b :: as') a (bs' ++ [b])
  rw [e1, e2, h1, h2]
  show along (a :: (bs' ++ [b])) + along (b :: (as' ++ [a])) = along (b :: (as' ++ [a])) + along (a :: (bs' ++ [b]))
  omega
theorem cr_flip (u w : Zp) : cr w u = 0 - cr u w := by unfold cr; grind
theorem along_back : ∀ (zs : List Zp), along zs.reverse = 0 - along zs
  | [] => rfl
  | [u] => rfl
  | u :: w :: r => by
    have ih := along_back (w :: r)
    rw [List.reverse_cons, List.reverse_cons, List.append_assoc]
    show along (r.reverse ++ w :: [u]) = _
    rw [along_app, ← List.reverse_cons, ih]
    show 0 - along (w :: r) + (cr w u + 0) = 0 - (cr u w + along (w :: r))
    rw [cr_flip u w]
    omega
/-- backwards -/
theorem around_back (zs : List Zp) : around zs.reverse = 0 - around zs := by
  cases zs with
  | nil => rfl
  | cons u r =>
    rw [List.reverse_cons, around_snoc, ← List.reverse_cons]
    rcases List.eq_nil_or_concat (u :: r) with e | ⟨as, l, e⟩
    · cases e
    · rw [List.concat_eq_append] at e
      rw [e, around_snoc]
      have e2 : u :: (as ++ [l]).reverse = u :: l :: as.reverse := by simp
      have e3 : l :: (as ++ [l]) = l :: u :: r := by rw [← e]
      rw [e3, along_cons2, ← e]
      rw [show u :: (u :: r).reverse = u :: (as ++ [l]).reverse by rw [e], e2, along_cons2, cr_flip l u]
      have : along (l :: as.reverse) = 0 - along (u :: r) := by rw [← along_back, e]; simp
      omega
theorem zip_along : ∀ (u : Zp) (r : List Zp) (x : Zp), (List.zipWith cr (u :: r) (r ++ [x])).sum = along (u :: (r ++ [x]))
  | u, [], x => by show cr u x + 0 = cr u x + 0; rfl
  | u, w :: r, x => by
    have ih := zip_along w r x
    show cr u w + (List.zipWith cr (w :: r) (r ++ [x])).sum = cr u w + along (w :: (r ++ [x]))
    rw [ih]
/-- the sum over the ways around -/
theorem area_sum {zs : List Zp} (h : 1 ≤ zs.length) : (List.zipWith cr zs (zs.drop 1 ++ zs.take 1)).sum = around zs := by
  cases zs with
  | nil => cases h
  | cons u r =>
    show (List.zipWith cr (u :: r) (r ++ [u])).sum = _
    rw [zip_along]
    rcases List.eq_nil_or_concat (u :: r) with e | ⟨as, l, e⟩
    · cases e
    · rw [List.concat_eq_append] at e
      have e1 : around (u :: r) = along (l :: (u :: r)) := by rw [e, around_snoc]
      have e2 : u :: (r ++ [u]) = as ++ l :: [u] := by
        rw [← List.cons_append, e, List.append_assoc]; rfl
      rw [e1, e2, along_app, ← e, along_cons2 l u r]
      show along (u :: r) + (cr l u + 0) = _
      omega
theorem along_snoc2 : ∀ (as : List Zp) (u w : Zp), along (as ++ [u, w]) = along (as ++ [u]) + cr u w
  | as, u, w => by
    rw [along_app]
    show along (as ++ [u]) + (cr u w + 0) = _
    omega
theorem along_take {ws : List Zp} {i : Nat} {u w : Zp} (h1 : ws[i]? = some u) (h2 : ws[i + 1]? = some w) : along (ws.take (i + 2)) = along (ws.take (i + 1)) + cr u w := by
  rw [List.take_succ, h2, List.take_succ, h1]
  show along (ws.take i ++ [u] ++ [w]) = along (ws.take i ++ [u]) + cr u w
  rw [List.append_assoc]
  exact along_snoc2 _ _ _
theorem cr_le {u w : Zp} (hu : On u.2.1 u.2.2) (hw : On w.2.1 w.2.2) : (cr u w).natAbs ≤ 2 ^ 21 :=
  sub_le (x := 20) (mul_le (x := 10) (y := 10) (by unfold On at hu; omega) (by unfold On at hw; omega)) (mul_le (x := 10) (y := 10) (by unfold On at hu; omega) (by unfold On at hw; omega))
/-- the point ahead of the i-th, around -/
theorem at_prev {zs : List Zp} {l u : Zp} {i : Nat} (hl : zs.getLast? = some l) (hi : i < zs.length) (hu : (l :: zs)[i]? = some u) : atI (refs zs) (0 + (i : Int) - 1) = some (V.ref u.1) := by
  cases i with
  | zero =>
    cases hu
    obtain ⟨as, e⟩ := List.getLast?_eq_some_iff.mp hl
    rw [e, show refs (as ++ [l]) = refs as ++ [V.ref l.1] from List.map_append]
    exact atI_last _ _
  | succ i =>
    exact L2.at_of (j := i) (by omega) (by rw [List.getElem?_map, show zs[i]? = some u from hu]; rfl)
end My
namespace My
open PySem L2
/-! ## lists of points that stand through draws -/
/-- a walk, whatever is done at each turn -/
theorem walk_any {J : It} {n : Nat} {G : Hp → Prop} {Y : Nat → Hp → V → Hp → Prop} {Body : (Hp → Prop) → V → Hp → Prop} {End : Hp → Prop} {Hs : Hp} (w : Walk J n G Y) (Pv : Nat → Hp → Prop) (first : Pv 0 Hs) (stands : ∀ i H, i ≤ n → Pv i H → G H)
    (turn : ∀ i x H H', i < n → Pv i H → Y i H x H' → Body (Pv (i + 1)) x H') (last : ∀ H, Pv n H → End H) :
    ∃ W : Nat → Nat → Hp → Prop, (∃ m, W 0 m Hs) ∧ ∀ i m H, W i m H → (J.stop i H ∧ End H) ∨ (J.go i H ∧ ∃ Nx : Hp → Prop, (∀ H', Nx H' → ∃ m', m' < m ∧ W (i + 1) m' H') ∧ ∀ x H', J.yld i H x H' → Body Nx x H') := by
  refine ⟨fun i left H => i + left = n ∧ Pv i H, ⟨n, Nat.zero_add n, first⟩, fun i left H here => ?_⟩
  obtain ⟨count, now⟩ := here
  cases left with
  | zero =>
    obtain rfl : i = n := count
    exact .inl ⟨w.stops H (stands _ H (Nat.le_refl _) now), last H now⟩
  | succ fewer =>
    have more : i < n := by omega
    exact .inr ⟨w.goes i H more (stands _ H (Nat.le_of_lt more) now), Pv (i + 1), fun H' then_ => ⟨fewer, Nat.lt_succ_self fewer, by omega, then_⟩, fun x H' given => turn i x H H' more now (w.yields i H x H' more (stands _ H (Nat.le_of_lt more) now) given)⟩
theorem But.putN {s p : Addr} {H H1 H2 : Hp} {o : HO} (a : But s H H1) (n : H1 p = none) (c : But s H H2) : But s H (upd H2 p o) := fun b u q e => (c b u q e).over (fun z => (a b u q e).ne_none (by rw [z]; exact n))
/-- a list of its own at p: points of the map -/
structure PL (K : PySem.W.Frag) (H : Hp) (s p : Addr) (zs : List Zp) : Prop where
  l : H p = some (.lst (refs zs))
  n : p ≠ s
  p : Pts K H zs
  on : ∀ z ∈ zs, On z.2.1 z.2.2
section
variable {K : PySem.W.Frag} {H H' : Hp} {s b p q : Addr} {zs ws : List Zp} {o : HO}
theorem PL.same (e : Same H H') (h : PL K H s p zs) : PL K H' s p zs := ⟨e.get h.l, h.n, h.p.same e, h.on⟩
theorem PL.but (e : But s H H') (S : Strm H s b) (h : PL K H s p zs) : PL K H' s p zs := ⟨e.get h.n h.l, h.n, h.p.but e S, h.on⟩
theorem PL.over (n : H q = none) (h : PL K H s p zs) : PL K (upd H q o) s p zs := h.same (same_new n)
theorem PL.seq (h : PL K H s p zs) : SqL K H p (refs zs) := SqL.of h.l
theorem PL.at_ {i : Nat} {z : Zp} (h : PL K H s p zs) (e : zs[i]? = some z) : SqT K H z.1 [.int z.2.1, .int z.2.2] := h.p.get e
theorem refs_len : (refs zs).length = zs.length := List.length_map _
theorem refs_app : refs (zs ++ ws) = refs zs ++ refs ws := List.map_append
theorem refs_take {n : Nat} : (refs zs).take n = refs (zs.take n) := (List.map_take).symm
theorem refs_drop {n : Nat} : (refs zs).drop n = refs (zs.drop n) := (List.map_drop).symm
end
end My
namespace My
open PySem L2
/-! ## the least of a row of points; the first place of a point in a tuple -/
abbrev ptsD (zs : List Zp) : List PyData := zs.map fun z => pD z.2.1 z.2.2
theorem dp_pts {K : PySem.W.Frag} {H : Hp} : ∀ {zs : List Zp}, Pts K H zs → DpAll K H (refs zs) (ptsD zs)
  | [], _ => .nil
  | z :: zs, h => .cons (dP (h z (by simp))) (dp_pts fun x hx => h x (by simp [hx]))
theorem pD_inj {ax ay bx dy : Int} (h : pD ax ay = pD bx dy) : ax = bx ∧ ay = dy := by
  unfold pD at h
  injection h with h
  injection h with h1 h2
  injection h1 with h1
  injection h2 with h2 _
  injection h2 with h2
  exact ⟨h1, h2⟩
theorem pD_lay (x y : Int) : (pD x y).canLay0 = true := by simp [pD, PyData.canLay0, PyData.canLayAll0]
theorem pD_depth (x y : Int) : (pD x y).depth ≤ 8 := by simp [pD, PyData.depth, PyData.depthAll]
theorem ptsD_lay : ∀ zs : List Zp, PyData.canLayAll0 (ptsD zs) = true
  | [] => by simp [PyData.canLayAll0]
  | z :: zs => by
    show (PyData.canLay0 (pD z.2.1 z.2.2) && PyData.canLayAll0 (ptsD zs)) = true
    rw [pD_lay, ptsD_lay zs]; rfl
theorem ptsD_depth : ∀ zs : List Zp, PyData.depthAll (ptsD zs) ≤ 8
  | [] => by simp [PyData.depthAll]
  | z :: zs => by
    have h1 := ptsD_depth zs
    have h2 := pD_depth z.2.1 z.2.2
    simp only [ptsD, List.map_cons, PyData.depthAll]
    exact Nat.max_le.mpr ⟨h2, h1⟩
theorem ptsD_alike (zs : List Zp) : PySem.W.AlikeAll (ptsD zs) := by
  refine ⟨fun x hx y hy => ?_, fun x hx => ?_⟩
  · obtain ⟨z, _, rfl⟩ := List.mem_map.mp hx
    obtain ⟨w, _, rfl⟩ := List.mem_map.mp hy
    unfold pD
    simp [PySem.W.alike, PySem.W.alikeAll]
  · obtain ⟨z, _, rfl⟩ := List.mem_map.mp hx
    unfold pD
    intro e
    cases e
theorem ltP_irr (x y : Int) : ltP x y x y = false := decide_eq_false (by omega)
theorem least_fold : ∀ (r : List Zp) (z : Zp), ∃ m ∈ z :: r, PySem.W.minD (pD z.2.1 z.2.2) (ptsD r) = pD m.2.1 m.2.2 ∧ ∀ w ∈ z :: r, ltP w.2.1 w.2.2 m.2.1 m.2.2 = false
  | [], z => ⟨z, by simp, rfl, fun w hw => by rw [List.mem_singleton] at hw; subst hw; exact ltP_irr _ _⟩
  | y :: r, z => by
    have e : PySem.W.minD (pD z.2.1 z.2.2) (ptsD (y :: r)) = PySem.W.minD (if PySem.W.dataLt (pD y.2.1 y.2.2) (pD z.2.1 z.2.2) = true then pD y.2.1 y.2.2 else pD z.2.1 z.2.2) (ptsD r) := rfl
    rw [show PySem.W.dataLt (pD y.2.1 y.2.2) (pD z.2.1 z.2.2) = ltP y.2.1 y.2.2 z.2.1 z.2.2 from PySem.W.dataLt_ii ..] at e
    by_cases q : ltP y.2.1 y.2.2 z.2.1 z.2.2 = true
    · rw [if_pos q] at e
      obtain ⟨m, hm, e1, h1⟩ := least_fold r y
      refine ⟨m, List.mem_cons_of_mem _ hm, e.trans e1, fun w hw => ?_⟩
      rcases List.mem_cons.mp hw with rfl | hw
      · have := h1 y (by simp)
        unfold ltP at this q ⊢
        rw [decide_eq_false_iff_not] at *
        rw [decide_eq_true_eq] at q
        omega
      · exact h1 w hw
    · rw [if_neg q] at e
      obtain ⟨m, hm, e1, h1⟩ := least_fold r z
      refine ⟨m, ?_, e.trans e1, fun w hw => ?_⟩
      · rcases List.mem_cons.mp hm with rfl | hm
        · simp
        · simp [hm]
      · rcases List.mem_cons.mp hw with rfl | hw
        · exact h1 _ (by simp)
        · rcases List.mem_cons.mp hw with rfl | hw
          · have := h1 z (by simp)
            rw [Bool.not_eq_true] at q
            unfold ltP at this q ⊢
            rw [decide_eq_false_iff_not] at *
            omega
          · exact h1 w (by simp [hw])
/-- min(t), t a tuple of points: one of its own -/
def rMinT (K : PySem.W.Frag) : List V → Hp → VK → Prop := fun vs H Q => ∃ (a : Addr) (zs : List Zp), vs = [V.ref a] ∧ (SqT K H a (refs zs) ∨ SqL K H a (refs zs)) ∧ Pts K H zs ∧ 1 ≤ zs.length ∧ ∀ z ∈ zs, (∀ w ∈ zs, ltP w.2.1 w.2.2 z.2.1 z.2.2 = false) → Q (.ref z.1) H
theorem cr_minT {X : Cx} (hc : X.calm = true) (hu : X.A.units + 64 < cLine) : CallR X (.builtin "min") (rMinT X.K) := by
  intro pins s σ H vs us Q I r h
  obtain ⟨a, zs, rfl, hs, hp, hn, q⟩ := h
  rw [Vals.ref1 r]
  have go : ∀ (its : List Value), Vals (refs zs) its → ∀ (as : List Addr), ReadsAll s.heap its (ptsD zs) as → ∀ (i : Nat) v h' tk bs, its.toArray[i]? = some v → Reads h' v (PySem.W.minD ((ptsD zs).headD .none) ((ptsD zs).drop 1)) bs → (∀ b o, s.heap.get? b = some o → h'.get? b = some o) → ∃ y H', Inv X pins σ H' { s with heap := h', toks := tk } ∧ RelV y v ∧ Q y H' := by
    intro its rv as ra i v h' tk bs hv hr hk
    have hv' : its[i]? = some v := by simpa using hv
    have li : i < its.length := (List.getElem?_eq_some_iff.mp hv').1
    have lz : i < zs.length := by have := rv.length; rw [List.length_map] at this; omega
    obtain ⟨z, hz⟩ : ∃ z, zs[i]? = some z := ⟨_, List.getElem?_eq_getElem lz⟩
    obtain ⟨w, hw, rw_⟩ := rv.get (i := i) (x := .ref z.1) (by rw [List.getElem?_map, hz]; rfl)
    rw [hv'] at hw
    cases hw
    have ev : v = Value.ref z.1 := rw_
    subst ev
    obtain ⟨cs, rz⟩ := Dp.reads I _ _ (.ref z.1) (dP (hp z (List.mem_of_getElem? hz))) rfl
    have rz := PySem.W.reads_keeps hk rz
    obtain ⟨z0, zr, rfl⟩ : ∃ z0 zr, zs = z0 :: zr := by
      cases zs with
      | nil => cases hn
      | cons z0 zr => exact ⟨z0, zr, rfl⟩
    obtain ⟨m, hm, e1, h1⟩ := least_fold zr z0
    have hr : Reads h' (.ref z.1) (PySem.W.minD (pD z0.2.1 z0.2.2) (ptsD zr)) bs := hr
    rw [e1] at hr
    have e2 := SeqAt.readOf_eq (pD_lay _ _) hr
    rw [SeqAt.readOf_eq (pD_lay _ _) rz] at e2
    obtain ⟨e3, e4⟩ := pD_inj e2
    exact ⟨.ref z.1, H, I.kept hk, rfl, q z (List.mem_of_getElem? hz) fun w hw => by rw [e3, e4]; exact h1 w hw⟩
  have hd : X.A.units + 1 + PyData.depthAll (ptsD zs) < cLine := by have := ptsD_depth zs; omega
  have hcons : ptsD zs = (ptsD zs).headD .none :: (ptsD zs).drop 1 := by
    cases zs with
    | nil => cases hn
    | cons z0 zr => rfl
  rcases hs with hs | hs
  · obtain ⟨its, rv, hl, hz⟩ := I.tuple hs
    obtain ⟨as, ra⟩ := Dp.readsAll I _ _ _ (dp_pts hp) rv
    refine PySem.W.min_tuple_data (I.ok.hd hc) hl (x := (ptsD zs).headD .none) (xs := (ptsD zs).drop 1) (as := as) (by rw [← hcons]; exact ra) (by rw [← hcons]; exact ptsD_alike zs) (by rw [← hcons]; exact hd) fun i v h' tk bs hv hr hk => go its rv as ra i v h' tk bs hv hr hk
  · obtain ⟨its, rv, hl, hz⟩ := I.list hs
    obtain ⟨as, ra⟩ := Dp.readsAll I _ _ _ (dp_pts hp) rv
    refine PySem.W.min_list_data (I.ok.hd hc) hl.isList (x := (ptsD zs).headD .none) (xs := (ptsD zs).drop 1) (as := as) (by rw [← hcons]; exact ra) (by rw [← hcons]; exact ptsD_alike zs) (by rw [← hcons]; exact hd) fun i v h' tk bs hv hr hk => go its rv as ra i v h' tk bs hv hr hk
theorem _root_.L2.Room.units65 {k : Nat} {A : Around} (r : L2.Room k A) : A.units + 65 < cLine := by have := r.un; omega
/-- t.index(p): the first place of an equal one -/
def rIndexT (K : PySem.W.Frag) : V → List V → Hp → VK → Prop := fun x xs H Q => ∃ (a c : Addr) (px py : Int) (zs : List Zp) (j : Nat) (z : Zp), x = V.ref a ∧ xs = [.ref c] ∧ SqT K H a (refs zs) ∧ Pts K H zs ∧ SqT K H c [.int px, .int py] ∧ zs[j]? = some z ∧ z.2.1 = px ∧ z.2.2 = py ∧
  (∀ (m : Nat) (w : Zp), m < j → zs[m]? = some w → ¬ (w.2.1 = px ∧ w.2.2 = py)) ∧ Q (.int (j : Nat)) H
theorem mt_indexT {X : Cx} (hu : X.A.units + 65 < cLine) : MtR X "tuple.index" (rIndexT X.K) := by
  intro pins s σ H x xs v us Q I rx rxs h
  obtain ⟨a, c, px, py, zs, j, z, rfl, rfl, hs, hp, hc, hz, e1, e2, hno, q⟩ := h
  cases rx
  obtain ⟨uy, rfl, ry⟩ := rxs.one
  obtain ⟨bs, r1⟩ := Dp.reads I _ _ uy (dP hc) ry
  obtain ⟨its, rv, ⟨⟨cls, dd, data, sls⟩, ho, hcl, n, hdt⟩, hlen⟩ := I.tuple hs
  simp only at hcl hdt
  subst hcl hdt
  obtain ⟨as, h4⟩ := Dp.readsAll I _ _ _ (dp_pts hp) rv
  have hmap : its.map (SeqAt.readOf s.heap) = ptsD zs := SeqAt.readsAll_map _ its as (ptsD_lay zs) h4
  have hil : its.length = zs.length := by have := rv.length; rw [List.length_map] at this; omega
  have hjz := (List.getElem?_eq_some_iff.mp hz).1
  have hj : j < its.toArray.size := by simp; omega
  have at_ : ∀ (m : Nat) (hm : m < its.toArray.size) (w : Zp), zs[m]? = some w → SeqAt.readOf s.heap its.toArray[m] = pD w.2.1 w.2.2 := by
    intro m hm w hw
    have hml : m < its.length := by simpa using hm
    have e : (its.map (SeqAt.readOf s.heap))[m]? = some (pD w.2.1 w.2.2) := by rw [hmap, List.getElem?_map, hw]; rfl
    rw [List.getElem?_map, List.getElem?_eq_getElem hml] at e
    have e1 : SeqAt.readOf s.heap its[m] = pD w.2.1 w.2.2 := Option.some.inj e
    simpa using e1
  have hd := ptsD_depth zs
  have hd2 := pD_depth px py
  refine call_meets PySem.F.slot_tuple_index ⟨_, ho, rfl⟩ PySem.F.entry_tuple_index (PySem.F.args_tuple_index_2 _ _) (TI.tuple_indexAt a its.toArray n dd sls uy (fun u => PyData.eqv (SeqAt.readOf s.heap u) (pD px py)) j hj ?_ ?_)
    ⟨ho, SeqAt.items_eqAt (vs := its.toArray) (show ReadsAll s.heap its.toArray.toList (ptsD zs) as from h4) r1 (ptsD_lay zs) (pD_lay _ _) (by omega), ⟨.int (j : Nat), H, I.tok _, ⟨_, rfl⟩, q⟩⟩
  · show PyData.eqv (SeqAt.readOf s.heap its.toArray[j]) _ = true
    rw [at_ j hj z hz, eqvP, e1, e2]
    exact decide_eq_true ⟨rfl, rfl⟩
  · intro m hm hmj
    obtain ⟨w, hw⟩ : ∃ w, zs[m]? = some w := ⟨_, List.getElem?_eq_getElem (by omega)⟩
    show PyData.eqv (SeqAt.readOf s.heap its.toArray[m]) _ = false
    rw [at_ m hm w hw, eqvP]
    exact decide_eq_false (hno m w hmj hw)
end My
namespace My
open PySem PySem.Spec PyProof.Rows L2
/-! ## tuples without a dict of their own: their methods can be called -/
def TN (H : Hp) (a : Addr) (xs : List V) : Prop := ∃ o : Obj, H a = some (.frz o (.tup xs)) ∧ o.dict = none
theorem TN.t {K : PySem.W.Frag} {H : Hp} {a : Addr} {xs : List V} (h : TN H a xs) : SqT K H a xs := by
  obtain ⟨o, e, _⟩ := h
  exact .inl (.inr ⟨o, e⟩)
theorem TN.same {H H' : Hp} {a : Addr} {xs : List V} (e : Same H H') (h : TN H a xs) : TN H' a xs := by
  obtain ⟨o, h, d⟩ := h
  exact ⟨o, e.get h, d⟩
theorem TN.but {H H' : Hp} {s b a : Addr} {xs : List V} (e : But s H H') (S : Strm H s b) (h : TN H a xs) : TN H' a xs := by
  obtain ⟨o, h, d⟩ := h
  obtain ⟨ys, n⟩ := S.lst
  exact ⟨o, e.get (ne_of h n (by intro z; cases z)) h, d⟩
theorem TN.here {H : Hp} {a : Addr} {xs : List V} {o : Obj} (d : o.dict = none) : TN (upd H a (.frz o (.tup xs))) a xs := ⟨o, upd_same, d⟩
section
variable {X : Cx}
theorem call_tuple_ofN : CallR X (.type "tuple") (fun xs H Q => ∃ p ys, xs = [.ref p] ∧ SqL X.K H p ys ∧ ∀ l o, H l = none → o.dict = none → Q (.ref l) (upd H l (.frz o (.tup ys)))) := by
  intro pins s σ H xs us Q I r h
  obtain ⟨p, ys, rfl, hq, q⟩ := h
  obtain ⟨u, rfl, rx⟩ := vals1 r
  cases rx
  obtain ⟨its, r', pl, hz⟩ := I.list hq
  have hlen := r'.length
  refine call_tuple_list pl.isList (fun h' kp => ?_) (by simp only [List.size_toArray] <;> omega)
  have I1 : Inv X pins σ H { s with heap := h' } := I.kept (t' := s.toks) kp
  have I2 : Inv X pins σ (upd H h'.objs.size (.frz { cls := .type "tuple", data := .seq its.toArray } (.tup ys))) { s with heap := h'.push { cls := .type "tuple", data := .seq its.toArray } } :=
    I1.laid (t' := s.toks) (fun b o e => Heap.get?_push_of_some _ e) (Nat.le_refl _) (show ObjOk X.prog X.w _ _ _ (.frz _ (.tup ys)) from ⟨Heap.get?_push_size _ rfl, hz, its, r', IsTup.new _ _⟩)
  exact ⟨.ref h'.objs.size, _, I2, rfl, q _ _ (I1.hok.fresh (Nat.le_refl _)) rfl⟩
def tRevN (K : PySem.W.Frag) (te : TE) : TE := fun σ H Q => te σ H fun x H1 => ∃ a xs, x = .ref a ∧ SqT K H1 a xs ∧ 1 ≤ xs.length ∧ ∀ p o, H1 p = none → o.dict = none → Q (.ref p) (upd H1 p (.frz o (.tup xs.reverse)))
theorem pe_revTN {e : Expr} {te : TE} {k : Nat} {p1 p2 p3 pos : Pos} (inner : PE X e te) : PE X (.Subscript e (.Slice none none (some (.UnaryOp .USub (.Constant (.int 1) k p1) p2)) p3) pos) (tRevN X.K te) := by
  refine ⟨fun pins s σ H Q I goal => ?_⟩
  refine Subscript_ (thn (inner.run pins s σ H _ I goal) fun v s1 ⟨x, H1, I1, r1, q1⟩ => ?_)
  obtain ⟨a, xs, rfl, whole, pos_, rest⟩ := q1
  cases r1
  have third : PO X (some (.UnaryOp .USub (.Constant (.int 1) k p1) p2)) (tPart (tUn (rU fun i => .int (-i)) (tC (.int 1)))) := po_some (pe_un un_neg pe_int)
  refine wpAny_Slice (thn (po_none.run pins s1 σ H1 (fun o G => o = none ∧ G = H1) I1 ⟨rfl, rfl⟩) fun vl s2 ⟨l, H2, I2, pl, el, e2⟩ => ?_)
  obtain rfl := el
  obtain rfl := e2
  refine thn (po_none.run pins s2 σ H2 (fun o G => o = none ∧ G = H2) I2 ⟨rfl, rfl⟩) fun vu s3 ⟨u, H3, I3, pu, eu, e3⟩ => ?_
  obtain rfl := eu
  obtain rfl := e3
  refine thn (third.run pins s3 σ H3 (fun o G => o = some (-1) ∧ G = H3) I3 ⟨1, rfl, -1, rfl, rfl, rfl⟩) fun vs s4 ⟨o, H4, I4, ps, eo, e4⟩ => ?_
  obtain rfl := eo
  obtain rfl := e4
  have I5 : Inv X pins σ H4 { s4 with heap := s4.heap.push { cls := .type "slice", data := .fields #[vl, vu, vs] } } := I4.kept (t' := s4.toks) (fun b ob q => Heap.get?_push_of_some _ q)
  obtain ⟨its, r, ht, hz⟩ := I5.tuple whole
  have len := r.length
  cases pl
  cases pu
  show wpAny (model X.prog X.w) X.A (subscriptTail e (.Slice none none (some (.UnaryOp .USub (.Constant (.int 1) k p1) p2)) p3) (.ref a) (.ref s4.heap.objs.size)) (EP X pins σ Q) X.xe _
  refine tail_any (ops := [.ref a, .ref s4.heap.objs.size]) ht.typeIs PyProof.Rows.slot_tuple_getitem.lookup ?_ (by with_unfolding_all rfl)
  refine HT.back_tuple ht (Heap.IsSliceOf.new _ _ _ vs) ps (by rw [List.size_toArray]; omega) (by rw [List.size_toArray]; omega) ?_
  exact ⟨.ref _, _, I5.laid (t' := s4.toks) (o := .frz { cls := .type "tuple", data := .seq its.toArray.toList.reverse.toArray } (.tup xs.reverse)) (fun b ob q => Heap.get?_push_of_some _ q) (Nat.le_refl _) ⟨Heap.get?_push_size _ rfl, by rw [List.length_reverse]; exact hz, _, r.reverse, IsTup.new _ _⟩, rfl, rest _ _ (I5.hok.fresh (Nat.le_refl _)) rfl⟩
/-- o.m(..), o such a tuple -/
def tBT (r : V → List V → Hp → VK → Prop) (to : TE) (t : TA) : TE := fun σ H Q => to σ H fun x H1 => (∃ a xs, x = .ref a ∧ TN H1 a xs) ∧ t σ H1 fun vs H2 => r x vs H2 Q
variable {o e : Expr} {es : List Expr} {to : TE} {t : TA} {name : Str} {apos cpos : Pos} {id : String} {r : V → List V → Hp → VK → Prop}
theorem pe_bmT (slot : Slot "tuple" name id) (hty : typeOf (.builtin id) = pure (.type "method_descriptor")) (hm : MtR X id r) (ho : PE X o to) (ha : PA X (e :: es) t)
    (hbase : attributeBase o name X.env (eval o X.env) = eval o X.env := by rfl)
    (hfew : ((backTo cpos (starEach (e :: es) X.env)).all (fun x => !x.1) && (backToKw cpos (keywordEach [] X.env)).all (fun x => x.1.isSome)
      && decide ((e :: es).length + ([] : List Keyword).length + (if ([] : List Keyword).isEmpty then 0 else 1) < 30)) = true := by rfl)
    (hline : (apos.endLine == cpos.line) = true := by rfl) (hs : starEach (e :: es) X.env = (false, eval e X.env) :: starEach es X.env := by rfl) (hplain : (backTo cpos (starEach es X.env)).any (·.1) = false := by rfl) :
    PE X (.Call (.Attribute o name apos) (e :: es) [] cpos) (tBT r to t) := by
  refine ⟨fun pins s σ H Q I h => ?_⟩
  refine wpAny_Call_method_late hbase hfew hline rfl (thn (ho.run pins s σ H _ I h) fun v s1 ⟨x, H1, I1, r1, ty, q1⟩ => ?_)
  obtain ⟨a, xs, rfl, ob, hob, hd⟩ := ty
  have hh : s1.heap.get? a = some ob := (I1.hok a _ hob).1
  obtain ⟨_, _, _, _, o2, ho2, hc2, _⟩ := I1.hok a _ hob
  have z := r1
  cases z
  have h1 : s1.TypeIs (.ref a) "tuple" := ⟨o2, ho2, hc2⟩
  have h2 : ∀ c, Value.ref a = .ref c → ∃ u, s1.heap.get? c = some u ∧ u.dict = none := fun c e => by cases e; exact ⟨ob, hh, hd⟩
  refine ⟨"tuple", id, PySem.F.plainAttrs_tuple, slot, hty, h1, h2, ?_⟩
  have hA := ha.run cpos pins s1 σ H1 _ I1 q1
  rw [hs] at hA ⊢
  refine Calls.callWith_builtin (by show (false || (backTo cpos (starEach es X.env)).any (·.1)) = false; rw [hplain] <;> rfl) (Calls.evalArgs_plain ?_)
  exact thn hA fun us s2 ⟨vs, H2, I2, r2, q2⟩ => hm pins s2 σ H2 _ vs _ us Q I2 r1 r2 q2
end
end My
namespace My
open PySem L2
/-! ## rows of points that go around simply -/
/-- no common point of the segments a b and c d, told by their ends and the turns -/
def Apart2 (a b c d : Pt) : Prop := box a c d = false ∧ box b c d = false ∧ box c a b = false ∧ box d a b = false ∧ ¬ (tn a b c * tn a b d < 0 ∧ tn c d a * tn c d b < 0)
/-- the segments p q and q r have only q in common -/
def Adj (p q r : Pt) : Prop := box p q r = false ∧ box r p q = false
theorem box_swap (p a b : Pt) : box p b a = box p a b := by
  have e : turnI b.1 b.2 a.1 a.2 p.1 p.2 = 0 - turnI a.1 a.2 b.1 b.2 p.1 p.2 := turn_swap ..
  unfold box boxI
  rw [e, show decide (0 - turnI a.1 a.2 b.1 b.2 p.1 p.2 = 0) = decide (turnI a.1 a.2 b.1 b.2 p.1 p.2 = 0) from decide_eq_decide.mpr (by omega)]
  have m1 : (if a.1 < b.1 then a.1 else b.1) = (if b.1 < a.1 then b.1 else a.1) := by split <;> split <;> omega
  have m2 : (if a.1 > b.1 then a.1 else b.1) = (if b.1 > a.1 then b.1 else a.1) := by split <;> split <;> omega
  have m3 : (if a.2 < b.2 then a.2 else b.2) = (if b.2 < a.2 then b.2 else a.2) := by split <;> split <;> omega
  have m4 : (if a.2 > b.2 then a.2 else b.2) = (if b.2 > a.2 then b.2 else a.2) := by split <;> split <;> omega
  rw [m1, m2, m3, m4]
theorem tn_flip (a b c : Pt) : tn b a c = 0 - tn a b c := turn_swap ..
theorem Apart2.swap1 {a b c d : Pt} (h : Apart2 a b c d) : Apart2 b a c d := by
  obtain ⟨h1, h2, h3, h4, h5⟩ := h
  refine ⟨h2, h1, by rw [box_swap]; exact h3, by rw [box_swap]; exact h4, fun ⟨q1, q2⟩ => h5 ⟨?_, ?_⟩⟩
  · rw [tn_flip, tn_flip a b] at q1
    have e : (0 - tn a b c) * (0 - tn a b d) = tn a b c * tn a b d := by grind
    rw [e] at q1
    exact q1
  · rw [Int.mul_comm]; exact q2
theorem Apart2.sym {a b c d : Pt} (h : Apart2 a b c d) : Apart2 c d a b := by
  obtain ⟨h1, h2, h3, h4, h5⟩ := h
  exact ⟨h3, h4, h1, h2, fun q => h5 ⟨q.2, q.1⟩⟩
theorem Apart2.swap2 {a b c d : Pt} (h : Apart2 a b c d) : Apart2 a b d c := h.sym.swap1.sym
theorem box_l {a b : Pt} (h : a ≠ b) : box a a b = true := by
  by_cases q : lt a b = true
  · rw [← on_box q]; exact on_a q
  · rw [Bool.not_eq_true] at q
    have g : lt b a = true := by
      cases e : lt b a with
      | true => rfl
      | false => exact absurd (lt_tri q e) h
    rw [box_swap, ← on_box g]
    exact on_b g
theorem box_r {a b : Pt} (h : a ≠ b) : box b a b = true := by rw [box_swap]; exact box_l (Ne.symm h)
/-- none, exactly if they are apart -/
theorem none_iff {a b c d : Pt} (hab : lt a b = true) (hcd : lt c d = true) : meetM a b c d = .none ↔ Apart2 a b c d := by
  have R := meet_right hab hcd
  have E : ends a b c d = [] ↔ box a c d = false ∧ box b c d = false ∧ box c a b = false ∧ box d a b = false := by
    rw [← on_box hcd, ← on_box hcd, ← on_box hab, ← on_box hab]
    constructor
    · intro e
      have no : ∀ p, p ∉ ends a b c d := fun p hp => by rw [e] at hp; cases hp
      refine ⟨?_, ?_, ?_, ?_⟩
      · exact Bool.eq_false_iff.mpr fun z => no a (mem_ends.mpr (.inl ⟨rfl, z⟩))
      · exact Bool.eq_false_iff.mpr fun z => no b (mem_ends.mpr (.inr (.inl ⟨rfl, z⟩)))
      · exact Bool.eq_false_iff.mpr fun z => no c (mem_ends.mpr (.inr (.inr (.inl ⟨rfl, z⟩))))
      · exact Bool.eq_false_iff.mpr fun z => no d (mem_ends.mpr (.inr (.inr (.inr ⟨rfl, z⟩))))
    · rintro ⟨h1, h2, h3, h4⟩
      unfold ends
      simp [h1, h2, h3, h4]
  constructor
  · intro e
    by_cases en : ends a b c d = []
    · obtain ⟨h1, h2, h3, h4⟩ := E.mp en
      refine ⟨h1, h2, h3, h4, fun q => ?_⟩
      have := R.cross_ en q.1 q.2
      rw [e] at this
      unfold cross at this
      cases this
    · obtain ⟨p, hp, hl⟩ := least_of _ en
      obtain ⟨q, hq, hg⟩ := greatest_of _ en
      by_cases pq : p = q
      · subst pq
        have := R.touch_ p hp fun r hr => lt_tri (hl r hr) (hg r hr)
        rw [e] at this
        cases this
      · have := R.over_ p q hp hq pq fun r hr => ⟨hl r hr, hg r hr⟩
        rw [e] at this
        cases this
  · rintro ⟨h1, h2, h3, h4, h5⟩
    refine R.none_ (E.mpr ⟨h1, h2, h3, h4⟩) ?_
    omega
def isT : Mt → Bool
  | .touch _ => true
  | _ => false
def ord (a b : Pt) : Pt × Pt := if lt a b = true then (a, b) else (b, a)
theorem ord_lt {a b : Pt} (h : a ≠ b) : lt (ord a b).1 (ord a b).2 = true := by
  unfold ord
  by_cases q : lt a b = true
  · rw [if_pos q]; exact q
  · rw [if_neg q]
    rw [Bool.not_eq_true] at q
    cases e : lt b a with
    | true => rfl
    | false => exact absurd (lt_tri q e) h
/-- how the segments meet, their ends in any order -/
def mt2 (a b c d : Pt) : Mt := meetM (ord a b).1 (ord a b).2 (ord c d).1 (ord c d).2
theorem ord_or (a b : Pt) : ord a b = (a, b) ∨ ord a b = (b, a) := by unfold ord; split <;> simp
theorem mt2_none {a b c d : Pt} (hab : a ≠ b) (hcd : c ≠ d) : mt2 a b c d = .none ↔ Apart2 a b c d := by
  unfold mt2
  rw [none_iff (ord_lt hab) (ord_lt hcd)]
  rcases ord_or a b with e | e <;> rcases ord_or c d with f | f <;> rw [e, f]
  · exact ⟨fun h => h.swap2, fun h => h.swap2⟩
  · exact ⟨fun h => h.swap1, fun h => h.swap1⟩
  · exact ⟨fun h => h.swap1.swap2, fun h => h.swap1.swap2⟩
theorem mt2_sym {a b c d : Pt} (hab : a ≠ b) (hcd : c ≠ d) : mt2 c d a b = mt2 a b c d := meet_sym (ord_lt hab) (ord_lt hcd)
/-- two ways that follow each other touch, exactly if they have no more in common -/
theorem touch_iff {p q r : Pt} (hpq : p ≠ q) (hqr : q ≠ r) : isT (mt2 p q q r) = true ↔ Adj p q r := by
  have l1 := ord_lt hpq
  have l2 := ord_lt hqr
  have R := meet_right l1 l2
  have b1 : ∀ x, on x (ord p q).1 (ord p q).2 = box x p q := fun x => by
    rw [on_box l1]
    rcases ord_or p q with e | e <;> rw [e]
    exact box_swap ..
  have b2 : ∀ x, on x (ord q r).1 (ord q r).2 = box x q r := fun x => by
    rw [on_box l2]
    rcases ord_or q r with e | e <;> rw [e]
    exact box_swap ..
  have M : ∀ x, x ∈ ends (ord p q).1 (ord p q).2 (ord q r).1 (ord q r).2 ↔ (x = p ∨ x = q) ∧ box x q r = true ∨ (x = q ∨ x = r) ∧ box x p q = true := by
    intro x
    rw [mem_ends, b2, b2, b1, b1]
    constructor
    · rintro (⟨rfl, h⟩ | ⟨rfl, h⟩ | ⟨rfl, h⟩ | ⟨rfl, h⟩)
      · exact .inl ⟨by rcases ord_or p q with e | e <;> rw [e] <;> simp, h⟩
      · exact .inl ⟨by rcases ord_or p q with e | e <;> rw [e] <;> simp, h⟩
      · exact .inr ⟨by rcases ord_or q r with e | e <;> rw [e] <;> simp, h⟩
      · exact .inr ⟨by rcases ord_or q r with e | e <;> rw [e] <;> simp, h⟩
    · rintro (⟨h1, h⟩ | ⟨h1, h⟩)
      · rcases ord_or p q with e | e <;> rw [e] <;> rcases h1 with rfl | rfl
        · exact .inl ⟨rfl, h⟩
        · exact .inr (.inl ⟨rfl, h⟩)
        · exact .inr (.inl ⟨rfl, h⟩)
        · exact .inl ⟨rfl, h⟩
      · rcases ord_or q r with e | e <;> rw [e] <;> rcases h1 with rfl | rfl
        · exact .inr (.inr (.inl ⟨rfl, h⟩))
        · exact .inr (.inr (.inr ⟨rfl, h⟩))
        · exact .inr (.inr (.inr ⟨rfl, h⟩))
        · exact .inr (.inr (.inl ⟨rfl, h⟩))
  have hq : q ∈ ends (ord p q).1 (ord p q).2 (ord q r).1 (ord q r).2 := (M q).mpr (.inl ⟨.inr rfl, box_l hqr⟩)
  have en : ends (ord p q).1 (ord p q).2 (ord q r).1 (ord q r).2 ≠ [] := fun e => by rw [e] at hq; cases hq
  constructor
  · intro t
    have key : ∀ x, x ∈ ends (ord p q).1 (ord p q).2 (ord q r).1 (ord q r).2 → x = q := by
      intro x hx
      obtain ⟨u, hu, hl⟩ := least_of _ en
      obtain ⟨v, hv, hg⟩ := greatest_of _ en
      by_cases uv : u = v
      · subst uv
        have e1 := lt_tri (hl x hx) (hg x hx)
        have e2 := lt_tri (hl q hq) (hg q hq)
        rw [e1, e2]
      · have e := R.over_ u v hu hv uv fun w hw => ⟨hl w hw, hg w hw⟩
        unfold mt2 at t
        rw [e] at t
        cases t
    refine ⟨Bool.eq_false_iff.mpr fun z => hpq (key p ((M p).mpr (.inl ⟨.inl rfl, z⟩))), Bool.eq_false_iff.mpr fun z => hqr (key r ((M r).mpr (.inr ⟨.inr rfl, z⟩))).symm⟩
  · rintro ⟨h1, h2⟩
    have e := R.touch_ q hq fun x hx => by
      rcases (M x).mp hx with ⟨h, z⟩ | ⟨h, z⟩
      · rcases h with rfl | rfl
        · rw [h1] at z; cases z
        · rfl
      · rcases h with rfl | rfl
        · rfl
        · rw [h2] at z; cases z
    unfold mt2
    rw [e]
    rfl
/-- the i-th point, around -/
def pt (zs : List Zp) (i : Nat) : Pt := match zs[i % zs.length]? with
  | some z => z.2
  | none => (0, 0)
theorem pt_at {zs : List Zp} {i : Nat} {z : Zp} (h : zs[i]? = some z) : pt zs i = z.2 := by
  have l := (List.getElem?_eq_some_iff.mp h).1
  unfold pt
  rw [Nat.mod_eq_of_lt l, h]
theorem pt_add {zs : List Zp} (i : Nat) : pt zs (i + zs.length) = pt zs i := by unfold pt; rw [Nat.add_mod_right]
theorem pt_mod {zs : List Zp} {i j : Nat} (h : i % zs.length = j % zs.length) : pt zs i = pt zs j := by unfold pt; rw [h]
structure Simp (zs : List Zp) : Prop where
  ne : ∀ i, i < zs.length → pt zs i ≠ pt zs (i + 1)
  adj : ∀ i, i < zs.length → Adj (pt zs i) (pt zs (i + 1)) (pt zs (i + 2))
  apart : ∀ i j, i + 1 < j → j < zs.length → ¬ (i = 0 ∧ j + 1 = zs.length) → Apart2 (pt zs i) (pt zs (i + 1)) (pt zs j) (pt zs (j + 1))
/-- as the program looks at it -/
def follow (i j n : Nat) : Bool := decide (j = i + 1) || (decide (i = 0) && decide (j + 1 = n))
def Looked (zs : List Zp) : Prop := (∀ i, i < zs.length → pt zs i ≠ pt zs (i + 1)) ∧ ∀ j, j < zs.length → ∀ i, i < j → (if follow i j zs.length = true then isT (mt2 (pt zs i) (pt zs (i + 1)) (pt zs j) (pt zs (j + 1))) = true else mt2 (pt zs i) (pt zs (i + 1)) (pt zs j) (pt zs (j + 1)) = .none)
theorem looked_iff {zs : List Zp} (h3 : 3 ≤ zs.length) : Looked zs ↔ Simp zs := by
  have last : ∀ j, j + 1 = zs.length → pt zs (j + 1) = pt zs 0 ∧ pt zs (j + 2) = pt zs 1 := fun j e => by
    have h0 := pt_add (zs := zs) 0
    have h1 := pt_add (zs := zs) 1
    rw [show 0 + zs.length = j + 1 by omega] at h0
    rw [show 1 + zs.length = j + 2 by omega] at h1
    exact ⟨h0, h1⟩
  constructor
  · rintro ⟨h1, h2⟩
    refine ⟨h1, fun i hi => ?_, fun i j hij hj hn => ?_⟩
    · by_cases e : i + 1 = zs.length
      · have := h2 i hi 0 (by omega)
        rw [if_pos (by unfold follow; simp [e])] at this
        obtain ⟨e1, e2⟩ := last i e
        rw [mt2_sym (h1 i hi) (h1 0 (by omega))] at this
        have ne1 := h1 i hi
        have ne2 := h1 0 (by omega)
        rw [e1] at this ne1 ⊢
        rw [e2]
        exact (touch_iff ne1 ne2).mp this
      · have := h2 (i + 1) (by omega) i (by omega)
        rw [if_pos (by unfold follow; simp)] at this
        exact (touch_iff (h1 i hi) (h1 (i + 1) (by omega))).mp this
    · have := h2 j hj i (by omega)
      rw [if_neg (by unfold follow; simp; omega)] at this
      exact (mt2_none (h1 i (by omega)) (h1 j hj)).mp this
  · intro S
    refine ⟨S.ne, fun j hj i hij => ?_⟩
    by_cases f : follow i j zs.length = true
    · rw [if_pos f]
      by_cases e : j = i + 1
      · subst e
        exact (touch_iff (S.ne i (by omega)) (S.ne (i + 1) hj)).mpr (S.adj i (by omega))
      · have f2 : i = 0 ∧ j + 1 = zs.length := by
          unfold follow at f
          simp [e] at f
          exact f
        obtain ⟨rfl, f2⟩ := f2
        rw [mt2_sym (S.ne j hj) (S.ne 0 (by omega))]
        have ne1 := S.ne j hj
        have ne2 := S.ne 0 (by omega)
        have a := S.adj j hj
        obtain ⟨e1, e2⟩ := last j f2
        rw [e1] at ne1 a ⊢
        rw [e2] at a
        exact (touch_iff ne1 ne2).mpr a
    · rw [if_neg f]
      refine (mt2_none (S.ne i (by omega)) (S.ne j hj)).mpr (S.apart i j ?_ hj ?_)
      · unfold follow at f; simp at f; omega
      · unfold follow at f; simp at f; intro z; exact f.2 z.1 z.2
end My
namespace PySem
namespace Gx
open PySem PySem.W PySem.Calls PyProof.Rows L2 GenW
theorem step_gen {stop : Bool} {t u v : TS} {D : Ends} {wi : TI} {g : TG} {tt : TT} {te : TE} {vs : List Nat} {P : Addr} {σ : L2.St} {H : Hp}
    (h : ∀ Q' : VK, (∀ x H1, Q' x H1 = ∃ c, x = .bl c ∧ if c = true then t { D with nx := v D } σ H1 else u { D with nx := v D } σ H1) → tGen stop wi g tt te vs P σ H Q') : tSeq (tIfS (tB (tGen stop wi g tt te vs P)) t u) v D σ H := h _ fun _ _ => rfl
theorem asg_sum {g' : TG} {v : TS} {D : Ends} {wi : TI} {g : TG} {tt : TT} {te : TE} {vs : List Nat} {P : Addr} {σ : L2.St} {H : Hp}
    (h : ∀ Q' : VK, (∀ x H1, Q' x H1 = tAsg (fun _ _ k => k x H1) g' { D with nx := v D } σ H1) → tSum wi g tt te vs P σ H Q') : tSeq (tAsg (tSum wi g tt te vs P) g') v D σ H := h _ fun _ _ => rfl
end Gx
end PySem
namespace My
open PySem L2
/-! ## rings at addresses -/
theorem op_eqK {X : Cx} {K : PySem.W.Frag} (hK : X.K = K) (hu : X.A.units + 64 < cLine) : OpR X (compareOp .Eq) (rPP K fun ax ay bx dy => .bl (decide (ax = bx ∧ ay = dy))) := by
  subst hK
  exact op_eqP hu
theorem ring_row {zs : List Zp} {i : Nat} {u : Zp} (h : (zs ++ zs.take 1)[i]? = some u) : pt zs i = u.2 ∧ u ∈ zs := by
  by_cases l : i < zs.length
  · rw [List.getElem?_append_left l] at h
    exact ⟨pt_at h, List.mem_of_getElem? h⟩
  · rw [List.getElem?_append_right (by omega)] at h
    have lt := (List.getElem?_eq_some_iff.mp h).1
    rw [List.length_take] at lt
    have e : i = 0 + zs.length := by omega
    rw [show i - zs.length = 0 by omega, List.getElem?_take_of_lt (by decide)] at h
    rw [e, pt_add]
    exact ⟨pt_at h, List.mem_of_getElem? h⟩
theorem ring_next {zs : List Zp} {i : Nat} (h : i < zs.length) : ∃ u w, zs[i]? = some u ∧ (zs.drop 1 ++ zs.take 1)[i]? = some w ∧ u ∈ zs ∧ w ∈ zs ∧ pt zs i = u.2 ∧ pt zs (i + 1) = w.2 := by
  obtain ⟨u, hu⟩ : ∃ u, zs[i]? = some u := ⟨_, List.getElem?_eq_getElem h⟩
  obtain ⟨w, hw⟩ : ∃ w, (zs.drop 1 ++ zs.take 1)[i]? = some w := ⟨_, List.getElem?_eq_getElem (by rw [List.length_append, List.length_drop, List.length_take]; omega)⟩
  have e : (zs ++ zs.take 1)[i + 1]? = some w := by
    obtain ⟨z, r, rfl⟩ : ∃ z r, zs = z :: r := by
      cases zs with
      | nil => cases h
      | cons z r => exact ⟨z, r, rfl⟩
    exact hw
  obtain ⟨e1, e2⟩ := ring_row e
  exact ⟨u, w, hu, hw, List.mem_of_getElem? hu, e2, pt_at hu, e1⟩
theorem row_at {zs : List Zp} {i : Nat} (h : i < zs.length) : ∃ u w, (zs ++ zs.take 1)[i]? = some u ∧ (zs ++ zs.take 1)[i + 1]? = some w ∧ u ∈ zs ∧ w ∈ zs ∧ pt zs i = u.2 ∧ pt zs (i + 1) = w.2 := by
  have ll : (zs ++ zs.take 1).length = zs.length + 1 := by rw [List.length_append, List.length_take]; omega
  obtain ⟨u, hu⟩ : ∃ u, (zs ++ zs.take 1)[i]? = some u := ⟨_, List.getElem?_eq_getElem (by omega)⟩
  obtain ⟨w, hw⟩ : ∃ w, (zs ++ zs.take 1)[i + 1]? = some w := ⟨_, List.getElem?_eq_getElem (by omega)⟩
  exact ⟨u, w, hu, hw, (ring_row hu).2, (ring_row hw).2, (ring_row hu).1, (ring_row hw).1⟩
theorem row_len {zs : List Zp} (h : 1 ≤ zs.length) : (zs ++ zs.take 1).length = zs.length + 1 := by rw [List.length_append, List.length_take]; omega
section
variable {K : PySem.W.Frag} {H H' : Hp}
theorem EdgeAt.ord {g : Addr} {u w : Zp} (h : EdgeAt K H g u w) : ∃ a c, SegAt K H g a c (My.ord u.2 w.2).1.1 (My.ord u.2 w.2).1.2 (My.ord u.2 w.2).2.1 (My.ord u.2 w.2).2.2 := by
  rcases h with h | h
  · have e : My.ord u.2 w.2 = (u.2, w.2) := if_pos h.lt
    rw [e]
    exact ⟨_, _, h⟩
  · have l : lt u.2 w.2 = false := lt_le h.lt
    have e : My.ord u.2 w.2 = (w.2, u.2) := if_neg (by rw [l]; decide)
    rw [e]
    exact ⟨_, _, h⟩
/-- the first item of an answer, a text -/
def mtS : Mt → Str
  | .none => "none"
  | .touch _ => "touch"
  | .over _ _ => "overlap"
  | .cross _ _ => "cross"
theorem MtAt.first {v : V} {m : Mt} (h : MtAt K H v m) : ∃ p xs, v = .ref p ∧ SqT K H p xs ∧ atI xs 0 = some (.str (mtS m)) := by
  cases m with
  | none => obtain ⟨p, rfl, h⟩ := h; exact ⟨p, _, rfl, h, at0⟩
  | touch P => obtain ⟨p, q, rfl, h, _⟩ := h; exact ⟨p, _, rfl, h, at0⟩
  | over P R => obtain ⟨p, q, r, rfl, h, _⟩ := h; exact ⟨p, _, rfl, h, at0⟩
  | cross x y => obtain ⟨p, q, r, rfl, h, _⟩ := h; exact ⟨p, _, rfl, h, at0⟩
theorem mtS_touch {m : Mt} : mtS m = "touch" ↔ isT m = true := by
  cases m <;> simp [mtS, isT] <;> decide
theorem mtS_none {m : Mt} : mtS m = "none" ↔ m = .none := by
  cases m <;> simp [mtS] <;> decide
end
end My
namespace My
open PySem L2
/-! ## where a point lies: edges that cross the ray to the east -/
def eastB (p a b : Pt) : Bool := if a.2 < b.2 then decide (a.2 ≤ p.2) && decide (p.2 < b.2) && decide (0 < tn a b p) else decide (b.2 ≤ p.2) && decide (p.2 < a.2) && decide (0 < tn b a p)
theorem east_up {p a b : Pt} (h1 : a.2 ≤ p.2) (h2 : p.2 < b.2) : eastB p a b = decide (0 < tn a b p) := by
  unfold eastB
  rw [if_pos (by omega), decide_eq_true h1, decide_eq_true h2]
  rfl
theorem east_down {p a b : Pt} (h1 : b.2 ≤ p.2) (h2 : p.2 < a.2) : eastB p a b = decide (tn a b p < 0) := by
  unfold eastB
  rw [if_neg (by omega), decide_eq_true h1, decide_eq_true h2, tn_flip]
  show decide (0 < 0 - tn a b p) = _
  exact decide_eq_decide.mpr (by omega)
theorem east_no {p a b : Pt} (h : (a.2 ≤ p.2 ∧ b.2 ≤ p.2) ∨ (p.2 < a.2 ∧ p.2 < b.2)) : eastB p a b = false := by
  unfold eastB
  split
  · by_cases h1 : a.2 ≤ p.2
    · rw [decide_eq_false (show ¬ p.2 < b.2 by omega)]; simp
    · rw [decide_eq_false h1]; simp
  · by_cases h1 : b.2 ≤ p.2
    · rw [decide_eq_false (show ¬ p.2 < a.2 by omega)]; simp
    · rw [decide_eq_false h1]; simp
theorem tn_sum (a b c p : Pt) : tn a b p + tn b c p + tn c a p = tn a b c := by unfold tn turnI; grind
theorem tn_y3 (a b c p : Pt) : tn b c p * (a.2 - p.2) + tn c a p * (b.2 - p.2) + tn a b p * (c.2 - p.2) = 0 := by unfold tn turnI; grind
theorem tn_x3 (a b c p : Pt) : tn b c p * (a.1 - p.1) + tn c a p * (b.1 - p.1) + tn a b p * (c.1 - p.1) = 0 := by unfold tn turnI; grind
theorem box_iff {p a b : Pt} : box p a b = true ↔ tn a b p = 0 ∧ ((a.1 ≤ p.1 ∧ p.1 ≤ b.1) ∨ (b.1 ≤ p.1 ∧ p.1 ≤ a.1)) ∧ ((a.2 ≤ p.2 ∧ p.2 ≤ b.2) ∨ (b.2 ≤ p.2 ∧ p.2 ≤ a.2)) := by
  unfold box boxI tn
  simp only [Bool.and_eq_true, decide_eq_true_eq]
  constructor
  · rintro ⟨h1, h2⟩
    refine ⟨h1, ?_, ?_⟩ <;> (revert h2; (repeat' split) <;> omega)
  · rintro ⟨h1, h2, h3⟩
    refine ⟨h1, ?_⟩
    (repeat' split) <;> omega
theorem prod_nn {x y : Int} (h1 : 0 ≤ x) (h2 : 0 ≤ y) : 0 ≤ x * y := Int.mul_nonneg h1 h2
theorem prod_np {x y : Int} (h1 : 0 ≤ x) (h2 : y ≤ 0) : x * y ≤ 0 := by
  have := Int.mul_nonneg h1 (show 0 ≤ 0 - y by omega)
  rw [show x * (0 - y) = 0 - x * y by grind] at this
  omega
theorem prod_pn {x y : Int} (h1 : x ≤ 0) (h2 : 0 ≤ y) : x * y ≤ 0 := by rw [Int.mul_comm]; exact prod_np h2 h1
theorem prod_nn' {x y : Int} (h1 : x ≤ 0) (h2 : y ≤ 0) : 0 ≤ x * y := by
  have := Int.mul_nonneg (show 0 ≤ 0 - x by omega) (show 0 ≤ 0 - y by omega)
  rw [show (0 - x) * (0 - y) = x * y by grind] at this
  exact this
/-- a weight times a number that is at least 0, for a positive sum -/
theorem sign_of {w d : Int} (hd : 0 < d) (h : 0 < w * d) : 0 < w := by
  rcases Int.lt_trichotomy w 0 with q | q | q
  · have := prod_pn (x := w) (y := d) (by omega) (by omega); omega
  · subst q; simp at h
  · exact q
theorem sign_of0 {w d : Int} (hd : 0 < d) (h : 0 ≤ w * d) : 0 ≤ w := by
  rcases Int.lt_or_le w 0 with q | q
  · have := Int.mul_neg_of_neg_of_pos q hd; omega
  · exact q
theorem sign_ofn {w d : Int} (hd : d < 0) (h : w * d < 0) : 0 < w := by
  rcases Int.lt_or_le 0 w with q | q
  · exact q
  · have := prod_nn' q (show d ≤ 0 by omega); omega
theorem sign_ofp {w d : Int} (hd : d < 0) (h : 0 < w * d) : w < 0 := by
  rcases Int.lt_or_le w 0 with q | q
  · exact q
  · have := prod_np q (show d ≤ 0 by omega); omega
/-- a point on the first edge, if its turn is 0 and the others are at least 0 -/
theorem on_edge {a b c p : Pt} (T : 0 < tn a b c) (h : tn a b p = 0) (h1 : 0 ≤ tn b c p) (h2 : 0 ≤ tn c a p) : box p a b = true := by
  have s := tn_sum a b c p
  have x := tn_x3 a b c p
  have y := tn_y3 a b c p
  rw [h, Int.zero_mul, Int.add_zero] at x y
  refine box_iff.mpr ⟨h, ?_, ?_⟩
  · by_cases q : a.1 ≤ p.1
    · by_cases r : p.1 ≤ b.1
      · exact .inl ⟨q, r⟩
      · by_cases q2 : p.1 ≤ a.1
        · exact .inr ⟨by omega, q2⟩
        · exfalso
          have e1 := prod_np (x := tn b c p) (y := a.1 - p.1) h1 (by omega)
          have e2 := prod_np (x := tn c a p) (y := b.1 - p.1) h2 (by omega)
          by_cases z : tn b c p = 0
          · have := Int.mul_neg_of_pos_of_neg (show 0 < tn c a p by omega) (show b.1 - p.1 < 0 by omega); omega
          · have := Int.mul_neg_of_pos_of_neg (show 0 < tn b c p by omega) (show a.1 - p.1 < 0 by omega); omega
    · by_cases r : b.1 ≤ p.1
      · exact .inr ⟨r, by omega⟩
      · exfalso
        have e1 := prod_nn (x := tn b c p) (y := a.1 - p.1) h1 (by omega)
        have e2 := prod_nn (x := tn c a p) (y := b.1 - p.1) h2 (by omega)
        by_cases z : tn b c p = 0
        · have := Int.mul_pos (show 0 < tn c a p by omega) (show 0 < b.1 - p.1 by omega); omega
        · have := Int.mul_pos (show 0 < tn b c p by omega) (show 0 < a.1 - p.1 by omega); omega
  · by_cases q : a.2 ≤ p.2
    · by_cases r : p.2 ≤ b.2
      · exact .inl ⟨q, r⟩
      · by_cases q2 : p.2 ≤ a.2
        · exact .inr ⟨by omega, q2⟩
        · exfalso
          have e1 := prod_np (x := tn b c p) (y := a.2 - p.2) h1 (by omega)
          have e2 := prod_np (x := tn c a p) (y := b.2 - p.2) h2 (by omega)
          by_cases z : tn b c p = 0
          · have := Int.mul_neg_of_pos_of_neg (show 0 < tn c a p by omega) (show b.2 - p.2 < 0 by omega); omega
          · have := Int.mul_neg_of_pos_of_neg (show 0 < tn b c p by omega) (show a.2 - p.2 < 0 by omega); omega
    · by_cases r : b.2 ≤ p.2
      · exact .inr ⟨r, by omega⟩
      · exfalso
        have e1 := prod_nn (x := tn b c p) (y := a.2 - p.2) h1 (by omega)
        have e2 := prod_nn (x := tn c a p) (y := b.2 - p.2) h2 (by omega)
        by_cases z : tn b c p = 0
        · have := Int.mul_pos (show 0 < tn c a p by omega) (show 0 < b.2 - p.2 by omega); omega
        · have := Int.mul_pos (show 0 < tn b c p by omega) (show 0 < a.2 - p.2 by omega); omega
theorem tn_cyc (a b c : Pt) : tn b c a = tn a b c := turn_cyc ..
def b2n (b : Bool) : Nat := if b = true then 1 else 0
end My
namespace My
open PySem L2
/-! ## rings, and where a point lies -/
structure RingOk (zs : List Zp) : Prop where
  l3 : 3 ≤ zs.length
  lm : zs.length ≤ 40
  simp : Simp zs
  pos : 0 < around zs
  least : ∀ w ∈ zs, lt w.2 (pt zs 0) = false
def onRing (p : Pt) (zs : List Zp) : Bool := (List.range zs.length).any fun i => box p (pt zs i) (pt zs (i + 1))
def cntE (p : Pt) (zs : List Zp) : Nat → Nat
  | 0 => 0
  | i + 1 => cntE p zs i + b2n (eastB p (pt zs i) (pt zs (i + 1)))
def placeS (p : Pt) (zs : List Zp) : Str := if onRing p zs = true then "on" else if cntE p zs zs.length % 2 = 1 then "in" else "out"
theorem onRing_no {p : Pt} {zs : List Zp} (h : ∀ i, i < zs.length → box p (pt zs i) (pt zs (i + 1)) = false) : onRing p zs = false := by
  unfold onRing
  rw [List.any_eq_false]
  intro i hi
  rw [h i (List.mem_range.mp hi)]
  decide
theorem onRing_yes {p : Pt} {zs : List Zp} {i : Nat} (hi : i < zs.length) (h : box p (pt zs i) (pt zs (i + 1)) = true) : onRing p zs = true := by
  unfold onRing
  rw [List.any_eq_true]
  exact ⟨i, List.mem_range.mpr hi, h⟩
theorem box_ord {p a b : Pt} (h : a ≠ b) : on p (ord a b).1 (ord a b).2 = box p a b := by
  rw [on_box (ord_lt h)]
  rcases ord_or a b with e | e <;> rw [e]
  exact box_swap ..
theorem b2n_le (b : Bool) : b2n b ≤ 1 := by cases b <;> decide
theorem cntE_le (p : Pt) (zs : List Zp) : ∀ i, cntE p zs i ≤ i
  | 0 => Nat.le_refl _
  | i + 1 => by
    have := cntE_le p zs i
    have := b2n_le (eastB p (pt zs i) (pt zs (i + 1)))
    show cntE p zs i + _ ≤ _
    omega
/-- the ring that points are made -/
structure Made (zs ws : List Zp) : Prop where
  ex : ∃ ys j z, ys = (if around zs < 0 then zs.reverse else zs) ∧ ys[j]? = some z ∧ (∀ w ∈ ys, lt w.2 z.2 = false) ∧ (∀ (m : Nat) (w : Zp), m < j → ys[m]? = some w → w.2 ≠ z.2) ∧ ws = ys.drop j ++ ys.take j
theorem first_idx : ∀ (ys : List Zp) (z : Zp), z ∈ ys → ∃ j w, ys[j]? = some w ∧ w.2 = z.2 ∧ ∀ (m : Nat) (u : Zp), m < j → ys[m]? = some u → u.2 ≠ z.2
  | [], z, h => by cases h
  | y :: ys, z, h => by
    by_cases e : y.2 = z.2
    · exact ⟨0, y, rfl, e, fun m u hm => absurd hm (Nat.not_lt_zero _)⟩
    · have hz : z ∈ ys := by
        rcases List.mem_cons.mp h with rfl | h
        · exact absurd rfl e
        · exact h
      obtain ⟨j, w, h1, h2, h3⟩ := first_idx ys z hz
      refine ⟨j + 1, w, h1, h2, fun m u hm hu => ?_⟩
      cases m with
      | zero => cases hu; exact e
      | succ m => exact h3 m u (by omega) hu
theorem Made.unique {zs ws vs : List Zp} (h : Made zs ws) (g : Made zs vs) : ws = vs := by
  obtain ⟨ys, j, z, e1, h1, h2, h3, rfl⟩ := h.ex
  obtain ⟨xs, k, w, e2, g1, g2, g3, rfl⟩ := g.ex
  have e : ys = xs := e1.trans e2.symm
  subst e
  have zw : z.2 = w.2 := lt_tri (g2 z (List.mem_of_getElem? h1)) (h2 w (List.mem_of_getElem? g1))
  have jk : j = k := by
    rcases Nat.lt_trichotomy j k with q | q | q
    · exact absurd zw (g3 j z q h1)
    · exact q
    · exact absurd zw.symm (h3 k w q g1)
  rw [jk]
theorem Made.mem {zs ws : List Zp} (h : Made zs ws) : ∀ z ∈ ws, z ∈ zs := by
  obtain ⟨ys, j, z, e1, h1, h2, h3, rfl⟩ := h.ex
  intro w hw
  have hy : w ∈ ys := (List.mem_append.mp hw).elim List.mem_of_mem_drop List.mem_of_mem_take
  rw [e1] at hy
  split at hy
  · exact List.mem_reverse.mp hy
  · exact hy
theorem Made.len {zs ws : List Zp} (h : Made zs ws) : ws.length = zs.length := by
  obtain ⟨ys, j, z, e1, h1, h2, h3, rfl⟩ := h.ex
  have : ys.length = zs.length := by rw [e1]; split <;> simp
  rw [List.length_append, List.length_drop, List.length_take]
  omega
theorem Made.pos {zs ws : List Zp} (h : Made zs ws) (n : around zs ≠ 0) : 0 < around ws := by
  obtain ⟨ys, j, z, e1, h1, h2, h3, rfl⟩ := h.ex
  rw [around_turned, List.take_append_drop, e1]
  split
  · rw [around_back]; omega
  · omega
theorem Made.least {zs ws : List Zp} (h : Made zs ws) : ∀ w ∈ ws, lt w.2 (pt ws 0) = false := by
  obtain ⟨ys, j, z, e1, h1, h2, h3, rfl⟩ := h.ex
  have hj := (List.getElem?_eq_some_iff.mp h1).1
  have e : (ys.drop j ++ ys.take j)[0]? = some z := by
    rw [List.getElem?_append_left (by rw [List.length_drop]; omega), List.getElem?_drop, Nat.add_zero]
    exact h1
  intro w hw
  rw [pt_at e]
  exact h2 w ((List.mem_append.mp hw).elim List.mem_of_mem_drop List.mem_of_mem_take)
/-! ### triangles -/
theorem tri_adj {a b c : Pt} (h : tn a b c ≠ 0) : Adj a b c := by
  constructor
  · refine Bool.eq_false_iff.mpr fun z => h ?_
    have := (box_iff.mp z).1
    rw [← tn_cyc]; exact this
  · exact Bool.eq_false_iff.mpr fun z => h (box_iff.mp z).1
theorem tn_ne1 {a b c : Pt} (h : tn a b c ≠ 0) : a ≠ b := fun e => h (by subst e; unfold tn turnI; grind)
theorem pt3 (a b c : Zp) : pt [a, b, c] 0 = a.2 ∧ pt [a, b, c] 1 = b.2 ∧ pt [a, b, c] 2 = c.2 ∧ pt [a, b, c] 3 = a.2 ∧ pt [a, b, c] 4 = b.2 := ⟨by simp [pt], by simp [pt], by simp [pt], by simp [pt], by simp [pt]⟩
theorem tri_simp {a b c : Zp} (h : tn a.2 b.2 c.2 ≠ 0) : Simp [a, b, c] := by
  have h2 : tn b.2 c.2 a.2 ≠ 0 := by rw [tn_cyc]; exact h
  have h3 : tn c.2 a.2 b.2 ≠ 0 := by rw [tn_cyc]; exact h2
  obtain ⟨p0, p1, p2, p3, p4⟩ := pt3 a b c
  refine ⟨fun i hi => ?_, fun i hi => ?_, fun i j hij hj hn => ?_⟩
  · rcases (show i = 0 ∨ i = 1 ∨ i = 2 by simp at hi; omega) with rfl | rfl | rfl
    · rw [p0, p1]; exact tn_ne1 h
    · rw [p1, p2]; exact tn_ne1 h2
    · rw [p2, p3]; exact tn_ne1 h3
  · rcases (show i = 0 ∨ i = 1 ∨ i = 2 by simp at hi; omega) with rfl | rfl | rfl
    · rw [p0, p1, p2]; exact tri_adj h
    · rw [p1, p2, p3]; exact tri_adj h2
    · rw [p2, p3, p4]; exact tri_adj h3
  · simp at hj hn; omega
end My
namespace SetP
open PySem PySem.Spec PySem.Calls PyProof.Rows L2
/-! ## the set of a tuple of points; its members in order -/
abbrev bare (w : World) : Obj := { cls := .type "set", dict := none, data := .set #[] 0 (.fresh 0 0 (!w.params.followText "set-order")) }
theorem perm_inv {α β : Type} {f : α → β} : ∀ {l : List β} {m : List α}, l.Perm (m.map f) → ∃ n : List α, l = n.map f ∧ n.Perm m
  | [], m, h => by
    have e : m.map f = [] := h.symm.eq_nil
    exact ⟨[], rfl, by rw [List.map_eq_nil_iff.mp e]⟩
  | x :: l, m, h => by
    obtain ⟨y, hy, rfl⟩ := List.mem_map.mp (h.mem_iff.mp (List.mem_cons_self (a := x) (l := l)))
    obtain ⟨u, t, rfl⟩ := List.append_of_mem hy
    have h2 : l.Perm ((u ++ t).map f) := by
      refine List.Perm.cons_inv (a := f y) (h.trans ?_)
      rw [List.map_append, List.map_append, List.map_cons]
      exact List.perm_middle
    obtain ⟨n, rfl, hn⟩ := perm_inv h2
    exact ⟨y :: n, rfl, (hn.cons y).trans List.perm_middle.symm⟩
section
variable {P : Program} {w : World} {A : Around} {E : Value → Shared → Prop} {s : Shared}
theorem set_of_tuple {tp : Addr} {its : Array Value} (rows : List (Addr × List Int)) {Q : Value → Shared → Prop} (quiet : A.handled = none) (isTp : s.heap.IsTuple tp its) (same : its.toList = rows.map fun r => Value.ref r.1)
    (each : ∀ r ∈ rows, IsT P w s.heap r.2 r.1) (few : rows.length < 64) (room : A.units + 3 < cLine)
    (next : ∀ (g : Heap) (tk : Nat) L es ep t, SetTR P w g s.heap.objs.size L es ep t → Got rows rows.length L → (∀ b o, s.heap.get? b = some o → g.get? b = some o) → Q (.ref s.heap.objs.size) { s with heap := g, toks := tk }) :
    wpAny (model P w) A (call (.type "set") [.ref tp]) Q E s := by
  have size_ : its.size = rows.length := by rw [← Array.length_toList, same, List.length_map]
  obtain ⟨c1, l1, mro_⟩ := F.called_set.mro
  have made_ := F.called_set.made
  have sub_ := F.called_set.sub
  refine (wpAny_call (codeAny_of_tree (?_)))
  show wpAny _ _ (callAny (Value.type "set") _) _ _ _
  refine (wpAny_pure ⟨Code.quiet_builtin _ (by decide +kernel), codeAny_builtin F.entry_type_call (?_)⟩)
  rw [Around.under_plain (weight_type_call_type ("set") [.ref tp] []) rfl]
  have notTy := F.called_set.notType
  have canMk := F.called_set.canCreate
  have tyCall := F.typeCall_set_1 (.ref tp)
  repeat any_goals first | assumption | wp_step
  refine codeAny_mono (code_set_led1 (Value.ref tp) (E := E) (Q₁ := fun x s1 => x = Value.ref s.heap.objs.size ∧ s1 = { s with heap := s.heap.push (bare w) }) ⟨rfl, rfl⟩) fun got s1 told => ?_
  cases got with
  | error x => exact told
  | ok fl =>
    cases fl with
    | ret x =>
      obtain ⟨rfl, rfl⟩ := told
      have atSet : (s.heap.push (bare w)).get? s.heap.objs.size = some (bare w) := Heap.get?_push_size _ rfl
      have tySet : Shared.TypeIs { s with heap := s.heap.push (bare w) } (.ref s.heap.objs.size) ("set") := ⟨_, atSet, rfl⟩
      have initL := F.called_set.init.lookup
      have initB := F.called_set.init.bind (Value.ref s.heap.objs.size)
      repeat any_goals first | assumption | wp_step
      refine codeAny_mono (codeAny_call_builtin (R := wants (fun y s2 => y = Value.none ∧ ∃ g tk L es ep t, s2 = { s with heap := g, toks := tk } ∧ SetTR P w g s.heap.objs.size L es ep t ∧ Got rows rows.length L ∧
        ∀ b o, s.heap.get? b = some o → g.get? b = some o) E) F.called_set.init.plain F.entry_set_init (check_set_init_1 tySet (?_))) fun got2 s2 told2 => ?_
      · obtain ⟨ob, hob, cls_, cnt, data_⟩ := isTp
        obtain ⟨kls, dic, dat, slo⟩ := ob
        simp only at cls_ data_
        subst cls_ data_
        have atTp : (s.heap.push (bare w)).get? tp = some { cls := .type "tuple", dict := dic, data := .seq its cnt, slots := slo } := Heap.get?_push_of_some _ hob
        have no1 := F.sub_tuple_set
        have no2 := F.sub_tuple_frozenset
        have no3 : (Value.type "tuple" == Value.type "dict") = false := by decide
        have tp1 : (s.heap.push (bare w)).IsTuple tp its := ⟨_, atTp, rfl, cnt, rfl⟩
        unfold Builtin.«set.__init__»
        unfold noKeywords Builtin.Frozenset.updateFrom
        generalize pyIterIs : pyIter = walker
        wp_walk
        subst pyIterIs
        refine (wpAny_pyIter_tuple tp1 (?_))
        refine (wpAny_bind (wpAny_runValue (?_)))
        have below : tp < s.heap.objs.size := Heap.lt_size hob
        have quiet3 : A.in1.in1.in1.handled = none := by simp [quiet]
        have apart_ : tp ≠ (s.heap.push (bare w)).objs.size := by
          rw [Heap.size_push]
          exact (Nat.ne_of_lt (Nat.lt_trans below (Nat.lt_succ_self _)))
        have other : s.heap.objs.size ∉ [(s.heap.push (bare w)).objs.size, tp] := by
          rw [Heap.size_push]
          simp only [List.mem_cons, List.not_mem_nil, or_false, not_or]
          exact (And.intro (Nat.ne_of_lt (Nat.lt_succ_self _)) (Nat.ne_of_gt below))
        have told : ∀ (i : Nat) (v : Value), its[i]? = some v → ∃ r, rows[i]? = some r ∧ v = .ref r.1 := fun i v hv => by
          rw [← Array.getElem?_toList, same, List.getElem?_map] at hv
          obtain ⟨r, h1, h2⟩ := Option.map_eq_some_iff.mp hv
          exact ⟨r, h1, h2.symm⟩
        have free : ∀ b, s.heap.objs.size ≤ b → s.heap.get? b = none := fun b hb => by
          cases q : s.heap.get? b with
          | none => rfl
          | some o =>
            exact absurd (Heap.lt_size q) (Nat.not_lt.mpr hb)
        refine set_update_tups ((Walks.tuple quiet3 _ tp apart_ its).toS) s.heap.objs.size other rows size_ few told s.heap each (free _ (Nat.le_refl _)) (fun b hb => free b (by
          rw [List.mem_singleton.mp hb, Heap.size_push]
          exact Nat.le_succ _)) room (its.size - 0) 0 _ (by omega) (Nat.zero_le _) ⟨⟨_, Heap.get?_push_size _ rfl, rfl, rfl⟩, tp1.push _⟩ (fun b o e => Heap.get?_push_of_some _ (Heap.get?_push_of_some _ e)) ?first ?last
        case first =>
          exact ⟨[], #[], 0, _, setTR_fresh (Heap.get?_push_of_some _ atSet), Got.zero rows⟩
        case last =>
          intro s3 L es ep t moved is_ all_ kept
          obtain ⟨g3, n3, d3, t3, o3⟩ := s3
          obtain rfl : n3 = s.gens := moved.gens
          obtain rfl : d3 = s.drawn := moved.drawn
          obtain rfl : o3 = s.os := moved.os
          show wpAny _ _ (_) _ _ _
          refine (wpAny_pure (?_))
          show wpAny _ _ (ret (Value.none)) _ _ _
          rw [size_] at all_
          exact wpAny_pure ⟨rfl, g3, t3, L, es, ep, t, rfl, is_, all_, kept⟩
      · cases got2 with
        | error x => exact told2
        | ok fl2 =>
          cases fl2 with
          | ret y =>
            obtain ⟨rfl, g, tk, L, es, ep, t, rfl, is_, all_, kept⟩ := told2
            repeat any_goals first | assumption | wp_step
            exact next g tk L es ep t is_ all_ kept
          | _ => exact told2.elim
    | _ => exact told.elim
/-- sorted of such a set: pairs of whole numbers, of any sign -/
theorem sorted_set {a : Addr} {L : List (Addr × List Int)} {es : Array (Int × Value)} {ep : Nat} {t : SetTable} {Q : Value → Shared → Prop} (R : SetTR P w s.heap a L es ep t) (quiet : A.handled = none) (room : A.units + 64 < cLine)
    (bs : List My.Pn) (eL : L = bs.map fun b => (b.1, [b.2.1, b.2.2])) (rd : ∀ b ∈ bs, ∃ as, Reads s.heap (.ref b.1) (My.pnD b) as)
    (next : ∀ s2 p (out : List Value) (c : Nat) (bs2 : List My.Pn), (∀ b o, s.heap.get? b = some o → s2.heap.get? b = some o) → s2.gens = s.gens → s2.os = s.os → s.heap.objs.size ≤ p →
      s2.heap.get? p = some (seqObj "list" out.toArray c) → bs2.Perm bs → PySem.W.EachIs (fun v b => v = Value.ref b.1) out (bs2.mergeSort fun p q => decide (p.2.1 < q.2.1 ∨ (p.2.1 = q.2.1 ∧ p.2.2 ≤ q.2.2))) → Q (.ref p) s2) :
    wpAny (model P w) A (call (.builtin "sorted") [.ref a]) Q E s := by
  obtain ⟨o, ho, ex_, data_⟩ := R.ob
  have few := R.few
  have size_ := R.size
  refine (Calls.call_function_entry kind_sorted plain_sorted entry_sorted (args_sorted1 (Value.ref a)) (?_))
  unfold Builtin.«sorted»
  refine (wpAny_bind (m := checkCount "sorted" 1 1 _) (wpAny_pure (?_)))
  refine wpAny_bind (collect_set (A := A.in1) quiet ⟨o, ho, ex_.1, data_⟩ R.fits (by unfold scanBound; omega) R.tab.ris R.led fun s1 vs kept size1 gens1 os1 perm => ?_)
  have rows : es.toList.map (·.2) = bs.map fun b => Value.ref b.1 := by
    rw [R.rows]
    unfold rowsOf
    rw [eL, List.map_map, List.map_map]
    rfl
  rw [rows] at perm
  obtain ⟨bs1, rfl, perm1⟩ := perm_inv perm
  have few1 : bs1.length < 64 := by
    rw [perm1.length_eq]
    rw [eL, List.length_map] at few
    exact few
  refine wpAny_bind (wpAny_newList (?_) (by rw [sizeLine_eq, List.length_map]; omega))
  have at_ : (s1.heap.push (seqObj "list" (bs1.map fun b => Value.ref b.1).toArray 0)).get? s1.heap.objs.size = some (seqObj "list" (bs1.map fun b => Value.ref b.1).toArray 0) := Heap.get?_push_size _ rfl
  have each_ : ∀ (Z : Value → My.Pn → Prop) (cs : List My.Pn), (∀ b ∈ cs, Z (.ref b.1) b) → PySem.W.EachIs Z (cs.map fun b => Value.ref b.1) cs := fun Z cs => by
    induction cs with
    | nil => exact fun _ => .nil
    | cons b cs ih => exact fun h => .cons (h b (by simp)) (ih fun x hx => h x (by simp [hx]))
  have reads_ : ∀ b ∈ bs1, ∃ as, Reads (s1.heap.push (seqObj "list" (bs1.map fun b => Value.ref b.1).toArray 0)) (.ref b.1) (My.pnD b) as ∧ s1.heap.objs.size ∉ as := fun b hb => by
    obtain ⟨as, r0⟩ := rd b (perm1.mem_iff.mp hb)
    have r1 : Reads s1.heap (.ref b.1) (My.pnD b) as := PyProof.Rows.Reads.keeps kept r0
    refine ⟨as, PyProof.Rows.Reads.keeps (fun x o e => Heap.get?_push_of_some _ e) r1, fun z => ?_⟩
    obtain ⟨o, q⟩ := PyProof.On.reads_mem_get r1 _ z
    exact Nat.lt_irrefl _ (Heap.lt_size q)
  refine wpAny_bind (wpAny_holding (PySem.W.list_sort_data (s := { s1 with heap := s1.heap.push (seqObj "list" (bs1.map fun b => Value.ref b.1).toArray 0) }) (enc := My.pnD) at_ (each_ (fun v b => v = Value.ref b.1) bs1 fun b _ => rfl) (each_ (fun v b => ∃ as, Reads _ v (My.pnD b) as ∧ s1.heap.objs.size ∉ as) bs1 reads_) (PySem.W.AllAlike.of fun b b' => ?_) (PySem.W.Sortable.tuples fun b => ⟨_, _, rfl⟩) (by rw [sizeLine_eq]; omega) (fun b _ => ?_) fun out len_ ho2 => ?_))
  · unfold My.pnD My.pD
    simp [PySem.W.alike, PySem.W.alikeAll]
  · have : (My.pnD b).depth ≤ 8 := by
      unfold My.pnD My.pD
      simp [PyData.depthAll, PyData.depth]
    show A.in1.units + 1 + _ < _
    have u1 : A.in1.units ≤ A.units + 1 := Nat.le_refl _
    omega
  rw [show PySem.W.dataLe false My.pnD = fun p q : My.Pn => decide (p.2.1 < q.2.1 ∨ (p.2.1 = q.2.1 ∧ p.2.2 ≤ q.2.2)) from PySem.W.dataLe_ii (fun b : My.Pn => b.2.1) (fun b : My.Pn => b.2.2)] at ho2
  obtain ⟨c, hc⟩ := sortedHeap_at (vs := bs1.map fun b => Value.ref b.1) (out := out.toArray) at_
  refine wpAny_pure ⟨_, rfl, next _ s1.heap.objs.size out c bs1 (fun b u e => ?_) gens1 os1 size1 hc perm1 ho2⟩
  have lt1 := Heap.lt_size (kept b u e)
  show (sortedHeap (s1.heap.push (seqObj "list" (bs1.map fun b => Value.ref b.1).toArray 0)) s1.heap.objs.size (bs1.map fun b => Value.ref b.1) out.toArray).get? b = some u
  rw [sortedHeap_old (Nat.ne_of_lt lt1) (by rw [size_push']; exact Nat.lt_succ_of_lt lt1)]
  exact Heap.get?_push_of_some _ (kept b u e)
end
/-! ### the two calls -/
def row2 (b : My.Pn) : Addr × List Int := (b.1, [b.2.1, b.2.2])
theorem sub_inv {α β : Type} {f : α → β} {m : List α} : ∀ {l : List β}, (∀ x ∈ l, x ∈ m.map f) → ∃ n : List α, l = n.map f ∧ ∀ y ∈ n, y ∈ m
  | [], _ => ⟨[], rfl, fun _ h => by cases h⟩
  | x :: l, h => by
    obtain ⟨y, hy, rfl⟩ := List.mem_map.mp (h x List.mem_cons_self)
    obtain ⟨n, rfl, hn⟩ := sub_inv (m := m) (f := f) fun z hz => h z (List.mem_cons_of_mem _ hz)
    exact ⟨y :: n, rfl, fun z hz => (List.mem_cons.mp hz).elim (fun e => e ▸ hy) (hn z)⟩
def rSetP (K : PySem.W.Frag) (P : Program) (w : World) : List V → Hp → VK → Prop := fun xs H Q => ∃ (a : Addr) (zs : List My.Pn), xs = [V.ref a] ∧ SqT K H a (zs.map My.pnV) ∧ (∀ z ∈ zs, SqT K H z.1 [.int z.2.1, .int z.2.2]) ∧ zs.length < 64 ∧
  ∀ p (bs : List My.Pn), H p = none → (∀ b ∈ bs, b ∈ zs) → (∀ z ∈ zs, z.2 ∈ bs.map fun b => b.2) → Q (.ref p) (upd H p (SetTO P w p (bs.map row2)))
section
variable {X : Cx}
theorem row2_inj {b c : My.Pn} (h : (row2 b).2 = (row2 c).2) : b.2 = c.2 := by
  unfold row2 at h
  injection h with h1 h2
  injection h2 with h2
  exact Prod.ext h1 h2
theorem cr_setP (calm : X.calm = true) (room : X.A.units + 64 < cLine) : CallR X (.type "set") (rSetP X.K X.prog X.w) := by
  intro pins s σ H xs us Q I r h
  obtain ⟨a, zs, rfl, hl, hz, few, q⟩ := h
  rw [Vals.ref1 r]
  obtain ⟨its, rv, ⟨o, ho, cls_, cnt, data_⟩, _⟩ := I.tuple hl
  have ei : its = zs.map fun z => Value.ref z.1 := by
    have go : ∀ {zs : List My.Pn} {us : List Value}, Vals (zs.map My.pnV) us → us = zs.map fun z => Value.ref z.1 := fun {zs} => by
      induction zs with
      | nil => intro us h; cases h; rfl
      | cons z zs ih =>
        intro us h
        cases h with
        | cons r t =>
          have e : _ = Value.ref z.1 := r
          rw [e, ih t]
          rfl
    exact go rv
  have free : H s.heap.objs.size = none := I.hok.fresh (Nat.le_refl _)
  refine set_of_tuple (P := X.prog) (w := X.w) (zs.map row2) (I.ok.hd calm) ⟨o, ho, cls_, cnt, data_⟩ (by rw [ei, List.map_map]; rfl) (fun r hr => ?_) (by rw [List.length_map]; exact few) (by omega) fun g tk L es ep t R got kept => ?_
  · obtain ⟨z, hz1, rfl⟩ := List.mem_map.mp hr
    exact I.isT (k := [z.2.1, z.2.2]) (hz z hz1)
  · obtain ⟨bs, rfl, hb⟩ := sub_inv (f := row2) (m := zs) fun x hx => List.mem_of_mem_take (got.sub x hx)
    refine ⟨.ref s.heap.objs.size, upd H s.heap.objs.size (SetTO X.prog X.w s.heap.objs.size (bs.map row2)), I.laid (t' := tk) kept (Nat.le_refl _) (setTO_new R.t0), rfl, q _ bs free hb fun z hz2 => ?_⟩
    have := got.all (row2 z) (by rw [List.take_length]; exact List.mem_map.mpr ⟨z, hz2, rfl⟩)
    rw [List.map_map] at this
    obtain ⟨b, hb1, hb2⟩ := List.mem_map.mp this
    exact List.mem_map.mpr ⟨b, hb1, row2_inj hb2⟩
def rSortedP (K : PySem.W.Frag) (P : Program) (w : World) : List V → Hp → VK → Prop := fun vs H Q => ∃ (a : Addr) (bs : List My.Pn), vs = [V.ref a] ∧ H a = some (SetTO P w a (bs.map row2)) ∧ (∀ b ∈ bs, SqT K H b.1 [.int b.2.1, .int b.2.2]) ∧
  ∀ p (cs : List My.Pn), cs.Perm bs → (cs.map fun b => b.2).Nodup → cs.length < 64 → H p = none → Q (.ref p) (upd H p (.lst ((cs.mergeSort fun p q => decide (p.2.1 < q.2.1 ∨ (p.2.1 = q.2.1 ∧ p.2.2 ≤ q.2.2))).map My.pnV)))
theorem cr_sortedP (calm : X.calm = true) (room : X.A.units + 64 < cLine) : CallR X (.builtin "sorted") (rSortedP X.K X.prog X.w) := by
  intro pins s σ H vs us Q I r h
  obtain ⟨a, bs, rfl, ha, hb, q⟩ := h
  have R0 : SetT0 X.prog X.w s.heap a (bs.map row2) := (I.hok a _ ha).1
  obtain ⟨es, ep, t, R⟩ := R0.full fun r hr => by
    obtain ⟨b, hb1, rfl⟩ := List.mem_map.mp hr
    exact I.isT (k := [b.2.1, b.2.2]) (hb b hb1)
  rw [Vals.ref1 r]
  refine sorted_set R (I.ok.hd calm) room bs rfl (fun b hb1 => Dp.reads I _ (.ref b.1) _ (My.dP (hb b hb1)) rfl) fun s2 p out c cs kept g o hp hg perm ho => ?_
  have few : cs.length < 64 := by
    have := R.few
    rw [List.length_map] at this
    rw [perm.length_eq]
    exact this
  have nd : (cs.map fun b => b.2).Nodup := by
    have h1 := R.nd
    rw [List.map_map] at h1
    have h2 : (bs.map fun b => b.2).Nodup := by
      rw [List.nodup_iff_pairwise_ne, List.pairwise_map] at h1 ⊢
      exact h1.imp fun {b c} ne e => ne (by
        show [b.2.1, b.2.2] = [c.2.1, c.2.2]
        rw [e])
    exact (perm.map _).nodup_iff.mpr h2
  have free : H p = none := I.hok.fresh hp
  have rv := My.vals_of_each ho
  have J : Inv X pins σ (upd H p (.lst ((cs.mergeSort fun p q => decide (p.2.1 < q.2.1 ∨ (p.2.1 = q.2.1 ∧ p.2.2 ≤ q.2.2))).map My.pnV))) { s with heap := s2.heap, gens := s2.gens, drawn := s2.drawn, toks := s2.toks } :=
    I.call (ch := []) (Un.laid kept hp free) (I.hok.laid kept hp ⟨by rw [List.length_map, List.length_mergeSort, sizeLine_eq]; omega, out, c, rv, hg⟩) (by rw [g]; exact I.bare) (fun _ z => nomatch z)
  have e : s2 = { s with heap := s2.heap, gens := s2.gens, drawn := s2.drawn, toks := s2.toks } := by
    cases s2
    cases s
    cases o
    rfl
  rw [e]
  exact ⟨.ref p, _, J, rfl, q p cs perm nd few free⟩
theorem cr_setPK {P : Program} {w : World} (eP : X.prog = P) (ew : X.w = w) (calm : X.calm = true) (room : X.A.units + 64 < cLine) : CallR X (.type "set") (rSetP X.K P w) := by
  subst eP ew
  exact cr_setP calm room
theorem cr_sortedPK {P : Program} {w : World} (eP : X.prog = P) (ew : X.w = w) (calm : X.calm = true) (room : X.A.units + 64 < cLine) : CallR X (.builtin "sorted") (rSortedP X.K P w) := by
  subst eP ew
  exact cr_sortedP calm room
end
end SetP
namespace My
open PySem L2
/-! ## how a law looks whether points go around simply; begun elsewhere, backwards -/
theorem sgn_lt (x y : Int) : decide (sgn x * sgn y < 0) = decide (x * y < 0) := by
  have := sgn_ge x y
  rw [decide_eq_decide] at this ⊢
  omega
def metB (a b c d : Pt) : Bool := box a c d || box b c d || box c a b || box d a b || (decide (sgn (tn a b c) * sgn (tn a b d) < 0) && decide (sgn (tn c d a) * sgn (tn c d b) < 0))
theorem metB_iff {a b c d : Pt} : metB a b c d = false ↔ Apart2 a b c d := by
  unfold metB Apart2
  rw [sgn_lt, sgn_lt]
  simp only [Bool.or_eq_false_iff, Bool.and_eq_false_iff, decide_eq_false_iff_not, and_assoc, Decidable.not_and_iff_or_not]
theorem metB_ord {a b c d : Pt} : metB (ord a b).1 (ord a b).2 (ord c d).1 (ord c d).2 = false ↔ Apart2 a b c d := by
  rw [metB_iff]
  rcases ord_or a b with e | e <;> rcases ord_or c d with f | f <;> rw [e, f]
  · exact ⟨fun h => h.swap2, fun h => h.swap2⟩
  · exact ⟨fun h => h.swap1, fun h => h.swap1⟩
  · exact ⟨fun h => h.swap1.swap2, fun h => h.swap1.swap2⟩
theorem at_pt {zs : List Zp} {j : Int} {k : Nat} (h0 : (k : Int) = j + zs.length) (h1 : j < zs.length) : ∃ u ∈ zs, atI (refs zs) j = some (.ref u.1) ∧ u.2 = pt zs k := by
  have ln : (refs zs).length = zs.length := List.length_map _
  by_cases q : 0 ≤ j
  · obtain ⟨u, hu⟩ : ∃ u, zs[j.toNat]? = some u := ⟨_, List.getElem?_eq_getElem (by omega)⟩
    refine ⟨u, List.mem_of_getElem? hu, at_of (j := j.toNat) (by omega) (by rw [List.getElem?_map, hu]; rfl), ?_⟩
    rw [show k = j.toNat + zs.length by omega, pt_add, pt_at hu]
  · obtain ⟨u, hu⟩ : ∃ u, zs[k]? = some u := ⟨_, List.getElem?_eq_getElem (by omega)⟩
    refine ⟨u, List.mem_of_getElem? hu, ?_, (pt_at hu).symm⟩
    unfold atI ixN
    rw [if_neg q, if_pos (by rw [ln]; omega)]
    simp only [Option.bind_some]
    rw [show (j + ((refs zs).length : Int)).toNat = k by rw [ln]; omega, List.getElem?_map, hu]
    rfl
/-- as the laws look at it -/
def LookA (zs : List Zp) (i : Nat) : Prop := pt zs (i + zs.length - 2) ≠ pt zs (i + zs.length - 1) ∧ Adj (pt zs (i + zs.length - 2)) (pt zs (i + zs.length - 1)) (pt zs (i + zs.length))
def LookB (zs : List Zp) (i j : Nat) : Prop := j + 1 < i → i < j + zs.length - 1 → Apart2 (pt zs (i + zs.length - 1)) (pt zs i) (pt zs (j + zs.length - 1)) (pt zs j)
theorem lookL_iff {zs : List Zp} (h3 : 3 ≤ zs.length) : ((∀ i, i < zs.length → LookA zs i) ∧ ∀ i, i < zs.length → ∀ j, j < i → LookB zs i j) ↔ Simp zs := by
  have P : ∀ k j : Nat, k = j + zs.length → pt zs k = pt zs j := fun k j e => by rw [e]; exact pt_add j
  constructor
  · rintro ⟨h1, h2⟩
    have A : ∀ i, i < zs.length → pt zs i ≠ pt zs (i + 1) ∧ Adj (pt zs i) (pt zs (i + 1)) (pt zs (i + 2)) := fun i hi => by
      by_cases e : i + 2 < zs.length
      · have := h1 (i + 2) e
        unfold LookA at this
        rw [P (i + 2 + zs.length - 2) i (by omega), P (i + 2 + zs.length - 1) (i + 1) (by omega), P (i + 2 + zs.length) (i + 2) (by omega)] at this
        exact this
      · have := h1 (i + 2 - zs.length) (by omega)
        unfold LookA at this
        rw [show i + 2 - zs.length + zs.length - 2 = i by omega, show i + 2 - zs.length + zs.length - 1 = i + 1 by omega, show i + 2 - zs.length + zs.length = i + 2 by omega] at this
        exact this
    refine ⟨fun i hi => (A i hi).1, fun i hi => (A i hi).2, fun i j hij hj hn => ?_⟩
    by_cases e : j + 1 = zs.length
    · have := h2 (i + 1) (by omega) 0 (by omega) (by omega) (by omega)
      rw [P (i + 1 + zs.length - 1) i (by omega), show 0 + zs.length - 1 = j by omega, ← P (j + 1) 0 (by omega)] at this
      exact this
    · have := h2 (j + 1) (by omega) (i + 1) (by omega) (by omega) (by omega)
      rw [P (j + 1 + zs.length - 1) j (by omega), P (i + 1 + zs.length - 1) i (by omega)] at this
      exact this.sym
  · intro S
    refine ⟨fun i hi => ?_, fun i hi j hj a b => ?_⟩
    · unfold LookA
      by_cases e : 2 ≤ i
      · rw [P (i + zs.length - 2) (i - 2) (by omega), P (i + zs.length - 1) (i - 2 + 1) (by omega), P (i + zs.length) (i - 2 + 2) (by omega)]
        exact ⟨S.ne _ (by omega), S.adj _ (by omega)⟩
      · rw [show i + zs.length - 1 = i + zs.length - 2 + 1 by omega, show i + zs.length = i + zs.length - 2 + 2 by omega]
        exact ⟨S.ne _ (by omega), S.adj _ (by omega)⟩
    · rw [P (i + zs.length - 1) (i - 1) (by omega)]
      by_cases e : j = 0
      · subst e
        have := S.apart (i - 1) (zs.length - 1) (by omega) (by omega) (by omega)
        rw [show i - 1 + 1 = i by omega, P (zs.length - 1 + 1) 0 (by omega)] at this
        rw [show 0 + zs.length - 1 = zs.length - 1 by omega]
        exact this
      · rw [P (j + zs.length - 1) (j - 1) (by omega)]
        have := S.apart (j - 1) (i - 1) (by omega) (by omega) (by omega)
        rw [show i - 1 + 1 = i by omega, show j - 1 + 1 = j by omega] at this
        exact this.sym
/-! ### begun elsewhere -/
theorem pt_turn1 {z : Zp} {r : List Zp} (i : Nat) : pt (r ++ [z]) i = pt (z :: r) (i + 1) := by
  have ln : (r ++ [z]).length = (z :: r).length := by simp
  have go : ∀ i, i < (z :: r).length → pt (r ++ [z]) i = pt (z :: r) (i + 1) := fun i hi => by
    by_cases e : i < r.length
    · obtain ⟨u, hu⟩ : ∃ u, r[i]? = some u := ⟨_, List.getElem?_eq_getElem e⟩
      rw [pt_at (z := u) (by rw [List.getElem?_append_left e]; exact hu), pt_at (z := u) (by simpa using hu)]
    · have e : i = r.length := by simp at hi; omega
      subst e
      rw [pt_at (z := z) (by simp), show r.length + 1 = 0 + (z :: r).length by simp, pt_add, pt_at (z := z) rfl]
  have m : i % (z :: r).length < (z :: r).length := Nat.mod_lt _ (by simp)
  rw [pt_mod (zs := r ++ [z]) (i := i) (j := i % (z :: r).length) (by rw [ln, Nat.mod_mod]), go _ m]
  exact pt_mod (by rw [Nat.add_mod, Nat.mod_mod, ← Nat.add_mod])
theorem Simp.turn1 {z : Zp} {r : List Zp} (h : Simp (z :: r)) : Simp (r ++ [z]) := by
  have ln : (r ++ [z]).length = (z :: r).length := by simp
  have P : ∀ k j : Nat, k = j + (z :: r).length → pt (z :: r) k = pt (z :: r) j := fun k j e => by rw [e]; exact pt_add j
  refine ⟨fun i hi => ?_, fun i hi => ?_, fun i j hij hj hn => ?_⟩
  · rw [ln] at hi
    rw [pt_turn1, pt_turn1]
    by_cases e : i + 1 < (z :: r).length
    · exact h.ne _ e
    · rw [P (i + 1) 0 (by omega), P (i + 1 + 1) (0 + 1) (by omega)]
      exact h.ne 0 (by omega)
  · rw [ln] at hi
    rw [pt_turn1, pt_turn1, pt_turn1]
    by_cases e : i + 1 < (z :: r).length
    · exact h.adj _ e
    · rw [P (i + 1) 0 (by omega), P (i + 1 + 1) (0 + 1) (by omega), P (i + 2 + 1) (0 + 2) (by omega)]
      exact h.adj 0 (by omega)
  · rw [ln] at hj hn
    rw [pt_turn1, pt_turn1, pt_turn1, pt_turn1]
    by_cases e : j + 1 < (z :: r).length
    · exact h.apart _ _ (by omega) e (by omega)
    · rw [P (j + 1) 0 (by omega), P (j + 1 + 1) (0 + 1) (by omega)]
      exact (h.apart 0 (i + 1) (by omega) (by omega) (by omega)).sym
theorem Simp.turned : ∀ (as bs : List Zp), Simp (as ++ bs) → Simp (bs ++ as)
  | [], bs, h => by rw [List.append_nil]; exact h
  | a :: as, bs, h => by
    have h1 : Simp ((as ++ bs) ++ [a]) := Simp.turn1 h
    rw [List.append_assoc] at h1
    have := Simp.turned as (bs ++ [a]) h1
    rw [List.append_assoc] at this
    exact this
/-! ### backwards -/
theorem pt_back {zs : List Zp} {i : Nat} (hi : i < 2 * zs.length) : pt zs.reverse i = pt zs (2 * zs.length - 1 - i) := by
  have go : ∀ i, i < zs.length → pt zs.reverse i = pt zs (zs.length - 1 - i) := fun i hi => by
    obtain ⟨u, hu⟩ : ∃ u, zs[zs.length - 1 - i]? = some u := ⟨_, List.getElem?_eq_getElem (by omega)⟩
    rw [pt_at hu]
    exact pt_at (by rw [List.getElem?_reverse (by omega)]; exact hu)
  by_cases e : i < zs.length
  · rw [go i e, show 2 * zs.length - 1 - i = zs.length - 1 - i + zs.length by omega, pt_add]
  · have e1 : i = i - zs.length + zs.reverse.length := by rw [List.length_reverse]; omega
    have e2 : 2 * zs.length - 1 - i = zs.length - 1 - (i - zs.length) := by omega
    rw [e1, pt_add, go _ (by omega), ← e1, e2]
theorem Adj.back {p q r : Pt} (h : Adj p q r) : Adj r q p := ⟨by rw [box_swap]; exact h.2, by rw [box_swap]; exact h.1⟩
theorem Simp.back {zs : List Zp} (l : 3 ≤ zs.length) (h : Simp zs) : Simp zs.reverse := by
  have P : ∀ k j : Nat, k = j + zs.length → pt zs k = pt zs j := fun k j e => by rw [e]; exact pt_add j
  have ln : zs.reverse.length = zs.length := List.length_reverse
  refine ⟨fun i hi => ?_, fun i hi => ?_, fun i j hij hj hn => ?_⟩
  · rw [ln] at hi
    rw [pt_back (by omega), pt_back (by omega)]
    by_cases e : i + 1 < zs.length
    · rw [P (2 * zs.length - 1 - i) (zs.length - 2 - i + 1) (by omega), P (2 * zs.length - 1 - (i + 1)) (zs.length - 2 - i) (by omega)]
      exact (h.ne _ (by omega)).symm
    · rw [show 2 * zs.length - 1 - i = zs.length - 1 + 1 by omega, show 2 * zs.length - 1 - (i + 1) = zs.length - 1 by omega]
      exact (h.ne _ (by omega)).symm
  · rw [ln] at hi
    rw [pt_back (by omega), pt_back (by omega), pt_back (by omega)]
    by_cases e : i + 2 < zs.length
    · rw [P (2 * zs.length - 1 - i) (zs.length - 3 - i + 2) (by omega), P (2 * zs.length - 1 - (i + 1)) (zs.length - 3 - i + 1) (by omega), P (2 * zs.length - 1 - (i + 2)) (zs.length - 3 - i) (by omega)]
      exact (h.adj _ (by omega)).back
    · rw [show 2 * zs.length - 1 - i = 2 * zs.length - 3 - i + 2 by omega, show 2 * zs.length - 1 - (i + 1) = 2 * zs.length - 3 - i + 1 by omega, show 2 * zs.length - 1 - (i + 2) = 2 * zs.length - 3 - i by omega]
      exact (h.adj _ (by omega)).back
  · rw [ln] at hj hn
    rw [pt_back (by omega), pt_back (by omega), pt_back (by omega), pt_back (by omega)]
    rw [P (2 * zs.length - 1 - i) (zs.length - 2 - i + 1) (by omega), P (2 * zs.length - 1 - (i + 1)) (zs.length - 2 - i) (by omega)]
    by_cases e : j + 1 < zs.length
    · rw [P (2 * zs.length - 1 - j) (zs.length - 2 - j + 1) (by omega), P (2 * zs.length - 1 - (j + 1)) (zs.length - 2 - j) (by omega)]
      exact ((h.apart (zs.length - 2 - j) (zs.length - 2 - i) (by omega) (by omega) (by omega)).swap1.swap2).sym
    · rw [show 2 * zs.length - 1 - j = zs.length - 1 + 1 by omega, show 2 * zs.length - 1 - (j + 1) = zs.length - 1 by omega]
      exact (h.apart (zs.length - 2 - i) (zs.length - 1) (by omega) (by omega) (by omega)).swap1.swap2
theorem Made.simp {zs ws : List Zp} (m : Made zs ws) (l : 3 ≤ zs.length) (h : Simp zs) : Simp ws := by
  obtain ⟨ys, j, z, e1, h1, h2, h3, rfl⟩ := m.ex
  refine Simp.turned (ys.take j) (ys.drop j) ?_
  rw [List.take_append_drop, e1]
  split
  · exact h.back l
  · exact h
/-- min and max of two points, told by their order -/
theorem mm_ord {u w : Pt} : (if ltP w.1 w.2 u.1 u.2 = true then w else u, if ltP u.1 u.2 w.1 w.2 = true then w else u) = ord u w := by
  unfold ord
  by_cases a : lt u w = true
  · have b : lt w u = false := lt_le a
    have a' : ltP u.1 u.2 w.1 w.2 = true := a
    have b' : ltP w.1 w.2 u.1 u.2 = false := b
    rw [a', b', if_pos a]
    rfl
  · rw [if_neg a]
    rw [Bool.not_eq_true] at a
    have a' : ltP u.1 u.2 w.1 w.2 = false := a
    rw [a']
    by_cases b : lt w u = true
    · have b' : ltP w.1 w.2 u.1 u.2 = true := b
      rw [b']
      rfl
    · rw [Bool.not_eq_true] at b
      have e : u = w := lt_tri a b
      subst e
      rw [ite_self, ite_self]
/-- the ways as a law lists them: the i-th leads to the i-th point -/
structure WayAt (K : PySem.W.Frag) (H : Hp) (g : Addr) (u w : Zp) (a b : Pt) : Prop where
  t : SqT K H g [.ref u.1, .ref w.1]
  o : (u.2, w.2) = ord a b
theorem WayAt.same {K : PySem.W.Frag} {H H' : Hp} {g : Addr} {u w : Zp} {a b : Pt} (e : Same H H') (h : WayAt K H g u w a b) : WayAt K H' g u w a b := ⟨tSame e h.t, h.o⟩
/-! ### lists or tuples of points -/
def SqE (K : PySem.W.Frag) (H : Hp) (a : Addr) (xs : List V) : Prop := SqL K H a xs ∨ SqT K H a xs
section
variable {K : PySem.W.Frag} {H H' : Hp} {p : Addr} {xs : List V}
theorem SqE.same (e : Same H H') (h : SqE K H p xs) : SqE K H' p xs := h.elim (fun h => .inl (e.seq h)) fun h => .inr (tSame e h)
theorem ixE {i : Int} {v : V} {Q : VK} (h : SqE K H p xs) (e : atI xs i = some v) (q : Q v H) : rIx K (.ref p) (.int i) H Q :=
  h.elim (fun h => .inl ⟨_, _, _, _, rfl, rfl, h, e, q⟩) fun h => .inr (.inl ⟨_, _, _, _, rfl, rfl, h, e, q⟩)
theorem lenE (h : SqE K H p xs) : LenV K (.ref p) H xs.length := h.elim (fun h => .inl ⟨_, h, rfl⟩) fun h => .inr ⟨_, h, rfl⟩
end
/-! ### two ways meet, step by step -/
theorem metB_1 {u w z : Zp} {c d : Pt} {i : Nat} (hz : [u, w][i]? = some z) (h : box z.2 c d = true) : metB u.2 w.2 c d = true := by
  unfold metB
  rcases List.mem_cons.mp (List.mem_of_getElem? hz) with rfl | hm
  · rw [h]; simp
  · rw [List.mem_singleton] at hm; subst hm; rw [h]; simp
theorem metB_2 {u w z : Zp} {a b : Pt} {i : Nat} (hz : [u, w][i]? = some z) (h : box z.2 a b = true) : metB a b u.2 w.2 = true := by
  unfold metB
  rcases List.mem_cons.mp (List.mem_of_getElem? hz) with rfl | hm
  · rw [h]; simp
  · rw [List.mem_singleton] at hm; subst hm; rw [h]; simp
theorem metB_3 {u w u' w' : Zp} (h1 : ∀ (j : Nat) z, j < 2 → [u, w][j]? = some z → box z.2 u'.2 w'.2 = false) (h2 : ∀ (j : Nat) z, j < 2 → [u', w'][j]? = some z → box z.2 u.2 w.2 = false) :
    metB u.2 w.2 u'.2 w'.2 = (decide (sgn (tn u.2 w.2 u'.2) * sgn (tn u.2 w.2 w'.2) < 0) && decide (sgn (tn u'.2 w'.2 u.2) * sgn (tn u'.2 w'.2 w.2) < 0)) := by
  unfold metB
  rw [h1 0 u (by decide) rfl, h1 1 w (by decide) rfl, h2 0 u' (by decide) rfl, h2 1 w' (by decide) rfl]
  rfl
end My
namespace My
open PySem L2
/-! ## polygons: edges, cuts -/
abbrev Eg := Pt × Pt
/-- two segments have no more in common than an end of both -/
def OK2 (a b c d : Pt) : Prop := (box a c d = true → a = c ∨ a = d) ∧ (box b c d = true → b = c ∨ b = d) ∧ (box c a b = true → c = a ∨ c = b) ∧ (box d a b = true → d = a ∨ d = b) ∧ ¬ (tn a b c * tn a b d < 0 ∧ tn c d a * tn c d b < 0)
theorem OK2.sym {a b c d : Pt} (h : OK2 a b c d) : OK2 c d a b := ⟨h.2.2.1, h.2.2.2.1, h.1, h.2.1, fun q => h.2.2.2.2 ⟨q.2, q.1⟩⟩
theorem OK2.swp {a b c d : Pt} (h : OK2 a b c d) : OK2 b a c d := by
  refine ⟨h.2.1, h.1, fun z => ?_, fun z => ?_, fun q => h.2.2.2.2 ⟨?_, ?_⟩⟩
  · rw [box_swap] at z; exact (h.2.2.1 z).symm
  · rw [box_swap] at z; exact (h.2.2.2.1 z).symm
  · have := q.1
    rw [tn_flip, tn_flip a b d, show (0 - tn a b c) * (0 - tn a b d) = tn a b c * tn a b d by grind] at this
    exact this
  · rw [Int.mul_comm]; exact q.2
def Smp (X : List Eg) : Prop := ∀ e ∈ X, ∀ f ∈ X, e ≠ f → OK2 e.1 e.2 f.1 f.2
theorem Smp.sub {X Y : List Eg} (h : Smp X) (s : ∀ e ∈ Y, e ∈ X) : Smp Y := fun e he f hf n => h e (s e he) f (s f hf) n
theorem OK2.self (a b : Pt) : OK2 a b a b := by
  refine ⟨fun _ => .inl rfl, fun _ => .inr rfl, fun _ => .inl rfl, fun _ => .inr rfl, fun q => ?_⟩
  have := q.1
  rw [tn_a, Int.zero_mul] at this
  omega
theorem Smp.ok {X : List Eg} (h : Smp X) {e f : Eg} (he : e ∈ X) (hf : f ∈ X) : OK2 e.1 e.2 f.1 f.2 := by
  by_cases q : e = f
  · subst q; exact OK2.self ..
  · exact h e he f hf q
def EndOf (x : Pt) (e : Eg) : Prop := x = e.1 ∨ x = e.2
theorem Smp.vert {X : List Eg} (S : Smp X) {e f : Eg} (he : e ∈ X) (hf : f ∈ X) {x : Pt} (hx : EndOf x e) (hb : box x f.1 f.2 = true) : x = f.1 ∨ x = f.2 := by
  have O := S.ok he hf
  rcases hx with rfl | rfl
  · exact O.1 hb
  · exact O.2.1 hb
/-! weights of a point in a triangle a v b, times the triangle's own turn -/
def wA (a v b p : Pt) : Int := tn a v b * tn v b p
def wB (a v b p : Pt) : Int := tn a v b * tn b a p
def wC (a v b p : Pt) : Int := tn a v b * tn a v p
def In3 (a v b p : Pt) : Prop := 0 ≤ wA a v b p ∧ 0 ≤ wB a v b p ∧ 0 ≤ wC a v b p
theorem w_sum (a v b p : Pt) : wA a v b p + wB a v b p + wC a v b p = tn a v b * tn a v b := by unfold wA wB wC tn turnI; grind
theorem w_aff (a v b p s t : Pt) : wA a v b p * tn s t a + wB a v b p * tn s t v + wC a v b p * tn s t b = tn a v b * tn a v b * tn s t p := by unfold wA wB wC tn turnI; grind
theorem w_x (a v b p : Pt) : wA a v b p * a.1 + wB a v b p * v.1 + wC a v b p * b.1 = tn a v b * tn a v b * p.1 := by unfold wA wB wC tn turnI; grind
theorem w_y (a v b p : Pt) : wA a v b p * a.2 + wB a v b p * v.2 + wC a v b p * b.2 = tn a v b * tn a v b * p.2 := by unfold wA wB wC tn turnI; grind
theorem sq_nz {t : Int} (h : t ≠ 0) : 0 < t * t := by
  rcases Int.lt_or_le t 0 with q | q
  · exact Int.mul_pos_of_neg_of_neg q q
  · exact Int.mul_pos (by omega) (by omega)
theorem wA_a (a v b : Pt) : wA a v b a = tn a v b * tn a v b := by unfold wA tn turnI; grind
theorem wA_v (a v b : Pt) : wA a v b v = 0 := by unfold wA; rw [tn_a, Int.mul_zero]
theorem wA_b (a v b : Pt) : wA a v b b = 0 := by unfold wA; rw [tn_b, Int.mul_zero]
theorem wB_a (a v b : Pt) : wB a v b a = 0 := by unfold wB; rw [tn_b, Int.mul_zero]
theorem wB_v (a v b : Pt) : wB a v b v = tn a v b * tn a v b := by unfold wB tn turnI; grind
theorem wB_b (a v b : Pt) : wB a v b b = 0 := by unfold wB; rw [tn_a, Int.mul_zero]
theorem wC_a (a v b : Pt) : wC a v b a = 0 := by unfold wC; rw [tn_a, Int.mul_zero]
theorem wC_v (a v b : Pt) : wC a v b v = 0 := by unfold wC; rw [tn_b, Int.mul_zero]
theorem wC_b (a v b : Pt) : wC a v b b = tn a v b * tn a v b := rfl
/-- signs of products -/
theorem mul_neg_split {t x y : Int} (h1 : t * x < 0) (h2 : 0 < t * y) : x * y < 0 := by
  rcases Int.lt_trichotomy t 0 with q | q | q
  · have hx : 0 < x := sign_ofn q (by rw [Int.mul_comm]; exact h1)
    have hy : y < 0 := sign_ofp q (by rw [Int.mul_comm]; exact h2)
    exact Int.mul_neg_of_pos_of_neg hx hy
  · subst q; simp at h1
  · have hy : 0 < y := sign_of q (by rw [Int.mul_comm]; exact h2)
    have hx : x < 0 := by
      rcases Int.lt_or_le x 0 with z | z
      · exact z
      · have := prod_nn (show 0 ≤ t by omega) z; omega
    exact Int.mul_neg_of_neg_of_pos hx hy
theorem g2a {D Ap Bp Cp Aq Bq Cq fa fv fb : Int} (hD : 0 < D) (sq : Aq + Bq + Cq = D) (ip : Ap * fa + Bp * fv + Cp * fb = 0) (iq : Aq * fa + Bq * fv + Cq * fb = 0) (hB : 0 < Bp) (hBq : Bq < 0) (ha : 0 < fa) (hb : fb < 0) (no : ¬ (0 ≤ Ap ∧ 0 ≤ Cp)) (hv : 0 < fv) : Ap < 0 ∧ 0 < Aq := by
  constructor
  · rcases Int.lt_or_le Ap 0 with z | z
    · exact z
    · exfalso
      have e1 := prod_nn z (show 0 ≤ fa by omega)
      have e2 := Int.mul_pos hB hv
      have : 0 < Cp := sign_ofn hb (by omega)
      exact no ⟨z, by omega⟩
  · rcases Int.lt_or_le 0 Aq with z | z
    · exact z
    · exfalso
      have e1 := prod_pn z (show 0 ≤ fa by omega)
      have e2 := Int.mul_neg_of_neg_of_pos hBq hv
      have : Cq < 0 := sign_ofp hb (by omega)
      omega
theorem g2c {D Ap Bp Cp Aq Bq Cq fa fv fb : Int} (hD : 0 < D) (sq : Aq + Bq + Cq = D) (ip : Ap * fa + Bp * fv + Cp * fb = 0) (iq : Aq * fa + Bq * fv + Cq * fb = 0) (hB : 0 < Bp) (hBq : Bq < 0) (ha : 0 < fa) (hb : fb < 0) (no : ¬ (0 ≤ Ap ∧ 0 ≤ Cp)) (hv : fv < 0) : Cp < 0 ∧ 0 < Cq :=
  g2a (D := D) (Ap := Cp) (Bp := Bp) (Cp := Ap) (Aq := Cq) (Bq := Bq) (Cq := Aq) (fa := -fb) (fv := -fv) (fb := -fa) hD (by omega) (by grind) (by grind) hB hBq (by omega) (by omega) (fun z => no ⟨z.2, z.1⟩) (by omega)
theorem g2z {D Ap Cp Aq Bq Cq fa fb : Int} (hD : 0 < D) (sq : Aq + Bq + Cq = D) (ip : Ap * fa + Cp * fb = 0) (iq : Aq * fa + Cq * fb = 0) (hBq : Bq < 0) (ha : 0 < fa) (hb : fb < 0) (no : ¬ (0 ≤ Ap ∧ 0 ≤ Cp)) : Cp < 0 ∧ 0 < Cq := by
  constructor
  · rcases Int.lt_or_le Cp 0 with z | z
    · exact z
    · have h : Ap < 0 := by
        rcases Int.lt_or_le Ap 0 with y | y
        · exact y
        · exact absurd ⟨y, z⟩ no
      have e1 := Int.mul_neg_of_neg_of_pos h ha
      have e2 := prod_np z (show fb ≤ 0 by omega)
      omega
  · rcases Int.lt_or_le 0 Cq with z | z
    · exact z
    · exfalso
      have h : 0 < Aq := by omega
      have e1 := Int.mul_pos h ha
      have e2 := prod_nn' z (show fb ≤ 0 by omega)
      omega
/-- a point of a line, between two others that lie on different sides of a line through it -/
theorem on_between {p q w a : Pt} (h0 : tn p q w = 0) (h1 : tn p q a ≠ 0) (h : tn a w p * tn a w q < 0) : box w p q = true := by
  have s := tn_sum p q a w
  have e1 : tn q a w = tn a w q := (tn_cyc q a w).symm
  have e2 : tn a p w = 0 - tn a w p := by unfold tn turnI; grind
  rw [h0, e1, e2] at s
  rcases neg_signs h with ⟨u, v⟩ | ⟨u, v⟩
  · rw [← box_swap]
    have f : tn q p a = 0 - tn p q a := tn_flip ..
    refine on_edge (c := a) (by omega) (by rw [tn_flip, h0]; rfl) ?_ ?_
    · rw [show tn p a w = 0 - tn a p w from tn_flip .., e2]; omega
    · rw [show tn a q w = 0 - tn q a w from tn_flip .., e1]; omega
  · refine on_edge (c := a) (by omega) h0 ?_ ?_
    · rw [e1]; omega
    · rw [e2]; omega
/-- a segment that crosses the third side from a point that is not in the triangle crosses another side -/
theorem no_cross {a w b p q : Pt} (hT : tn a w b ≠ 0) (hp : 0 < wB a w b p) (hq : wB a w b q < 0) (hf : tn p q a * tn p q b < 0) (ni : ¬ In3 a w b p) (npw : w ≠ p) (O1 : OK2 p q a w) (O2 : OK2 p q w b) : False := by
  have hD := sq_nz hT
  have fa0 : tn p q a ≠ 0 := fun z => by rw [z, Int.zero_mul] at hf; omega
  have ha : 0 < tn p q a * tn p q a := sq_nz fa0
  have no : ¬ (0 ≤ wA a w b p ∧ 0 ≤ wC a w b p) := fun z => ni ⟨z.1, by omega, z.2⟩
  have ip := w_aff a w b p p q
  have iq := w_aff a w b q p q
  rw [tn_a, Int.mul_zero] at ip
  rw [tn_b, Int.mul_zero] at iq
  have ip2 : wA a w b p * (tn p q a * tn p q a) + wB a w b p * (tn p q a * tn p q w) + wC a w b p * (tn p q a * tn p q b) = 0 := by
    have : wA a w b p * (tn p q a * tn p q a) + wB a w b p * (tn p q a * tn p q w) + wC a w b p * (tn p q a * tn p q b) = tn p q a * (wA a w b p * tn p q a + wB a w b p * tn p q w + wC a w b p * tn p q b) := by grind
    rw [this, ip, Int.mul_zero]
  have iq2 : wA a w b q * (tn p q a * tn p q a) + wB a w b q * (tn p q a * tn p q w) + wC a w b q * (tn p q a * tn p q b) = 0 := by
    have : wA a w b q * (tn p q a * tn p q a) + wB a w b q * (tn p q a * tn p q w) + wC a w b q * (tn p q a * tn p q b) = tn p q a * (wA a w b q * tn p q a + wB a w b q * tn p q w + wC a w b q * tn p q b) := by grind
    rw [this, iq, Int.mul_zero]
  rcases Int.lt_trichotomy (tn p q a * tn p q w) 0 with z | z | z
  · obtain ⟨h1, h2⟩ := g2c hD (w_sum a w b q) ip2 iq2 hp hq ha hf no z
    exact O1.2.2.2.2 ⟨z, mul_neg_split h1 h2⟩
  · rw [z, Int.mul_zero, Int.add_zero] at ip2 iq2
    have sq := w_sum a w b q
    obtain ⟨h1, h2⟩ := g2z (Bq := wB a w b q) hD sq ip2 iq2 hq ha hf no
    have fw : tn p q w = 0 := by
      rcases Int.mul_eq_zero.mp z with y | y
      · exact absurd y fa0
      · exact y
    rcases O1.2.2.2.1 (on_between fw fa0 (mul_neg_split h1 h2)) with y | y
    · exact npw y
    · subst y; rw [wB_v] at hq; omega
  · obtain ⟨h1, h2⟩ := g2a hD (w_sum a w b q) ip2 iq2 hp hq ha hf no z
    refine O2.2.2.2.2 ⟨?_, mul_neg_split h1 h2⟩
    rw [Int.mul_comm]
    exact mul_neg_split hf z
/-- a point of a segment, as a mean of its ends -/
theorem on_mix {s u v : Pt} (h : box s u v = true) (n : u ≠ v) : ∃ D al be : Int, 0 < D ∧ 0 ≤ al ∧ 0 ≤ be ∧ al + be = D ∧ D * s.1 = al * u.1 + be * v.1 ∧ D * s.2 = al * u.2 + be * v.2 := by
  obtain ⟨h0, hx, hy⟩ := box_iff.mp h
  have e : (v.1 - u.1) * (s.2 - u.2) = (v.2 - u.2) * (s.1 - u.1) := by
    unfold tn turnI at h0; grind
  by_cases q : u.1 = v.1
  · have q2 : u.2 ≠ v.2 := fun z => n (pt_eq q z)
    have sx : s.1 = u.1 := by omega
    rcases Int.lt_or_le u.2 v.2 with z | z
    · exact ⟨v.2 - u.2, v.2 - s.2, s.2 - u.2, by omega, by omega, by omega, by omega, by rw [sx, ← q]; grind, by grind⟩
    · exact ⟨u.2 - v.2, s.2 - v.2, u.2 - s.2, by omega, by omega, by omega, by omega, by rw [sx, ← q]; grind, by grind⟩
  · rcases Int.lt_or_le u.1 v.1 with z | z
    · exact ⟨v.1 - u.1, v.1 - s.1, s.1 - u.1, by omega, by omega, by omega, by omega, by grind, by grind⟩
    · exact ⟨u.1 - v.1, s.1 - v.1, u.1 - s.1, by omega, by omega, by omega, by omega, by grind, by grind⟩
theorem mix_tn {s u v : Pt} {D al be : Int} (hs : al + be = D) (h1 : D * s.1 = al * u.1 + be * v.1) (h2 : D * s.2 = al * u.2 + be * v.2) (x y : Pt) : D * tn x y s = al * tn x y u + be * tn x y v := by
  have : D * tn x y s = (y.1 - x.1) * (D * s.2 - D * x.2) - (y.2 - x.2) * (D * s.1 - D * x.1) := by unfold tn turnI; grind
  rw [this, h1, h2, ← hs]
  unfold tn turnI
  grind
theorem In3.ends {a w b u v s : Pt} (hu : In3 a w b u) (hv : In3 a w b v) (h : box s u v = true) (n : u ≠ v) : In3 a w b s := by
  obtain ⟨D, al, be, hD, ha, hb, hs, h1, h2⟩ := on_mix h n
  have M := mix_tn hs h1 h2
  have go : ∀ x y, 0 ≤ tn a w b * tn x y u → 0 ≤ tn a w b * tn x y v → 0 ≤ tn a w b * tn x y s := fun x y e1 e2 => by
    have e : (tn a w b * tn x y s) * D = al * (tn a w b * tn x y u) + be * (tn a w b * tn x y v) := by
      rw [show (tn a w b * tn x y s) * D = tn a w b * (D * tn x y s) by grind, M]; grind
    have q1 := prod_nn ha e1
    have q2 := prod_nn hb e2
    exact sign_of0 hD (by omega)
  exact ⟨go _ _ hu.1 hv.1, go _ _ hu.2.1 hv.2.1, go _ _ hu.2.2 hv.2.2⟩
theorem In3.a (a w b : Pt) : In3 a w b a := by
  refine ⟨?_, ?_, ?_⟩
  · rw [wA_a]; exact sq_nn _
  · rw [wB_a]; omega
  · rw [wC_a]; omega
theorem In3.w (a w b : Pt) : In3 a w b w := by
  refine ⟨?_, ?_, ?_⟩
  · rw [wA_v]; omega
  · rw [wB_v]; exact sq_nn _
  · rw [wC_v]; omega
theorem In3.b (a w b : Pt) : In3 a w b b := by
  refine ⟨?_, ?_, ?_⟩
  · rw [wA_b]; omega
  · rw [wB_b]; omega
  · rw [wC_b]; exact sq_nn _
theorem tri_ne {a w b : Pt} (h : tn a w b ≠ 0) : a ≠ w ∧ w ≠ b ∧ a ≠ b := by
  refine ⟨fun z => h ?_, fun z => h ?_, fun z => h ?_⟩
  · subst z; unfold tn turnI; grind
  · subst z; exact tn_b ..
  · subst z; exact tn_a ..
/-- the third side of a triangle with two edges, free of further ends, goes well with all edges -/
theorem cut1 {X : List Eg} (S : Smp X) {a w b : Pt} (ha : (a, w) ∈ X) (hb : (w, b) ∈ X) (hT : tn a w b ≠ 0) (only : ∀ e ∈ X, EndOf w e → e = (a, w) ∨ e = (w, b)) (free : ∀ e ∈ X, ∀ x, EndOf x e → In3 a w b x → x = a ∨ x = w ∨ x = b) : ∀ e ∈ X, OK2 a b e.1 e.2 := by
  obtain ⟨n1, n2, n3⟩ := tri_ne hT
  intro e he
  have side : ∀ x, EndOf x e → box x a b = true → x = a ∨ x = b := fun x hx z => by
    rcases free e he x hx (In3.ends (In3.a ..) (In3.b ..) z n3) with y | y | y
    · exact .inl y
    · subst y
      have := (box_iff.mp z).1
      exact absurd (by rw [show tn a x b = 0 - tn a b x by unfold tn turnI; grind]; omega) hT
    · exact .inr y
  have one : ∀ p q, EndOf p e → OK2 p q a w → OK2 p q w b → (p = w → q = a ∨ q = b) → 0 < wB a w b p → wB a w b q < 0 → tn p q a * tn p q b < 0 → False := fun p q hp O1 O2 pw b1 b2 hf => by
    have np : w ≠ p := fun z => by
      rcases pw z.symm with y | y
      · subst y; rw [wB_a] at b2; omega
      · subst y; rw [wB_b] at b2; omega
    refine no_cross hT b1 b2 hf (fun z => ?_) np O1 O2
    rcases free e he p hp z with y | y | y
    · subst y; rw [wB_a] at b1; omega
    · exact np y.symm
    · subst y; rw [wB_b] at b1; omega
  refine ⟨fun z => S.vert ha he (.inl rfl) z, fun z => S.vert hb he (.inr rfl) z, fun z => side _ (.inl rfl) z, fun z => side _ (.inr rfl) z, fun z => ?_⟩
  have O1 := S.ok he ha
  have O2 := S.ok he hb
  have pw : ∀ x, EndOf x e → x = w → (x = e.1 → e.2 = a ∨ e.2 = b) ∧ (x = e.2 → e.1 = a ∨ e.1 = b) := fun x hx y => by
    subst y
    rcases only e he hx with y | y <;> subst y
    · exact ⟨fun z => absurd z.symm n1, fun _ => .inl rfl⟩
    · exact ⟨fun _ => .inr rfl, fun z => absurd z n2⟩
  have flip : ∀ p q x, tn q p x = 0 - tn p q x := fun p q x => tn_flip ..
  rcases neg_signs (show wB a w b e.1 * wB a w b e.2 < 0 by
    have : wB a w b e.1 * wB a w b e.2 = (tn a w b * tn a w b) * (tn a b e.1 * tn a b e.2) := by
      unfold wB; rw [flip a b e.1, flip a b e.2]; grind
    rw [this]
    exact Int.mul_neg_of_pos_of_neg (sq_nz hT) z.1) with ⟨u, v⟩ | ⟨u, v⟩
  · exact one e.1 e.2 (.inl rfl) O1 O2 (fun y => (pw _ (.inl rfl) y).1 rfl) u v z.2
  · refine one e.2 e.1 (.inr rfl) O1.swp O2.swp (fun y => (pw _ (.inr rfl) y).2 rfl) v u ?_
    rw [flip e.1 e.2, flip e.1 e.2]
    have := z.2
    rw [show (0 - tn e.1 e.2 a) * (0 - tn e.1 e.2 b) = tn e.1 e.2 a * tn e.1 e.2 b by grind]
    exact this
theorem cancel {d x y : Int} (h : d ≠ 0) (e : d * x = d * y) : x = y := Int.eq_of_mul_eq_mul_left h e
/-- a point of the triangle other than w has less weight of w than w -/
theorem less_w {a w b q : Pt} (hT : tn a w b ≠ 0) (i : In3 a w b q) (n : q ≠ w) : wB a w b q < tn a w b * tn a w b := by
  have s := w_sum a w b q
  rcases Int.lt_or_le (wB a w b q) (tn a w b * tn a w b) with z | z
  · exact z
  · exfalso
    have h1 : wA a w b q = 0 := by have := i.1; have := i.2.2; omega
    have h2 : wC a w b q = 0 := by have := i.1; have := i.2.2; omega
    have x := w_x a w b q
    have y := w_y a w b q
    rw [h1, h2] at x y s
    rw [show wB a w b q = tn a w b * tn a w b by omega] at x y
    have hD := sq_nz hT
    exact n (pt_eq (cancel (by omega) (show tn a w b * tn a w b * q.1 = tn a w b * tn a w b * w.1 by omega)) (cancel (by omega) (show tn a w b * tn a w b * q.2 = tn a w b * tn a w b * w.2 by omega)))
theorem g3sel {D As Bs Cs Aq Bq Cq fa fv fb fq : Int} (hD : 0 < D) (is : As * fa + Bs * fv + Cs * fb = 0) (iq : Aq * fa + Bq * fv + Cq * fb = D * fq) (hB : 0 < Bs) (h1 : 0 ≤ Aq) (h2 : 0 ≤ Bq) (h3 : 0 ≤ Cq) (hv : 0 < fv) (hq : fq < 0) (no : ¬ (0 ≤ As ∧ 0 ≤ Cs)) : (fa < 0 ∧ Cs < 0) ∨ (fb < 0 ∧ As < 0) := by
  have e0 := Int.mul_neg_of_pos_of_neg hD hq
  have e1 := prod_nn h2 (show 0 ≤ fv by omega)
  have e2 := Int.mul_pos hB hv
  rcases Int.lt_or_le fa 0 with p | p
  · rcases Int.lt_or_le Cs 0 with z | z
    · exact .inl ⟨p, z⟩
    · have hA : As < 0 := by
        rcases Int.lt_or_le As 0 with y | y
        · exact y
        · exact absurd ⟨y, z⟩ no
      rcases Int.lt_or_le fb 0 with y | y
      · exact .inr ⟨y, hA⟩
      · have := Int.mul_pos_of_neg_of_neg hA p
        have := prod_nn z y
        omega
  · rcases Int.lt_or_le fb 0 with y | y
    · rcases Int.lt_or_le As 0 with z | z
      · exact .inr ⟨y, z⟩
      · have hC : Cs < 0 := by
          rcases Int.lt_or_le Cs 0 with u | u
          · exact u
          · exact absurd ⟨z, u⟩ no
        have := Int.mul_pos_of_neg_of_neg hC y
        have := prod_nn z p
        omega
    · have := prod_nn h1 p
      have := prod_nn h3 y
      omega
/-- a segment that crosses the line from w to q of a triangle, from a point that is nearer to w but not in the triangle, crosses a side -/
theorem no_cross2 {a w b q p r : Pt} (hT : tn a w b ≠ 0) (iq : In3 a w b q) (hp : wB a w b q < wB a w b p) (ni : ¬ In3 a w b p) (h1 : tn w q p * tn w q r < 0) (h2 : tn p r w * tn p r q < 0) (O1 : OK2 p r a w) (O2 : OK2 p r w b) : False := by
  have hD := sq_nz hT
  have f0 : tn p r w ≠ 0 := fun z => by rw [z, Int.zero_mul] at h2; omega
  have hv : 0 < tn p r w * tn p r w := sq_nz f0
  have no : ¬ (0 ≤ wA a w b p ∧ 0 ≤ wC a w b p) := fun z => ni ⟨z.1, by have := iq.2.1; omega, z.2⟩
  have ip := w_aff a w b p p r
  rw [tn_a, Int.mul_zero] at ip
  have iq1 := w_aff a w b q p r
  have ip2 : wA a w b p * (tn p r w * tn p r a) + wB a w b p * (tn p r w * tn p r w) + wC a w b p * (tn p r w * tn p r b) = 0 := by
    have : wA a w b p * (tn p r w * tn p r a) + wB a w b p * (tn p r w * tn p r w) + wC a w b p * (tn p r w * tn p r b) = tn p r w * (wA a w b p * tn p r a + wB a w b p * tn p r w + wC a w b p * tn p r b) := by grind
    rw [this, ip, Int.mul_zero]
  have iq2 : wA a w b q * (tn p r w * tn p r a) + wB a w b q * (tn p r w * tn p r w) + wC a w b q * (tn p r w * tn p r b) = tn a w b * tn a w b * (tn p r w * tn p r q) := by
    have : wA a w b q * (tn p r w * tn p r a) + wB a w b q * (tn p r w * tn p r w) + wC a w b q * (tn p r w * tn p r b) = tn p r w * (wA a w b q * tn p r a + wB a w b q * tn p r w + wC a w b q * tn p r b) := by grind
    rw [this, iq1]; grind
  have four := tn_four w q p r
  have sg : tn p r w * tn w q r - tn p r w * tn w q p = tn p r w * tn p r w - tn p r w * tn p r q := by
    have e : tn w q r - tn w q p = tn p r w - tn p r q := by omega
    rw [← Int.mul_sub, e, Int.mul_sub]
  have gs : (tn p r w * tn w q p) * (tn p r w * tn w q r) < 0 := by
    rw [show (tn p r w * tn w q p) * (tn p r w * tn w q r) = (tn p r w * tn p r w) * (tn w q p * tn w q r) by grind]
    exact Int.mul_neg_of_pos_of_neg hv h1
  obtain ⟨g1, g2⟩ : tn p r w * tn w q p < 0 ∧ 0 < tn p r w * tn w q r := by
    rcases neg_signs gs with ⟨u, v⟩ | ⟨u, v⟩
    · omega
    · exact ⟨u, v⟩
  have other : ∀ Wp Wr Wq : Int, Wp * tn w q r - Wr * tn w q p = tn p r w * Wq → 0 ≤ Wq → Wp < 0 → 0 < Wr := fun Wp Wr Wq e n z => by
    rcases Int.lt_or_le 0 Wr with y | y
    · exact y
    · exfalso
      have e2 : Wp * (tn p r w * tn w q r) - Wr * (tn p r w * tn w q p) = (tn p r w * tn p r w) * Wq := by
        rw [show Wp * (tn p r w * tn w q r) - Wr * (tn p r w * tn w q p) = tn p r w * (Wp * tn w q r - Wr * tn w q p) by grind, e]; grind
      have := Int.mul_neg_of_neg_of_pos z g2
      have := prod_nn' y (show tn p r w * tn w q p ≤ 0 by omega)
      have := prod_nn (show 0 ≤ tn p r w * tn p r w by omega) n
      omega
  rcases g3sel hD ip2 iq2 (by have := iq.2.1; omega) iq.1 iq.2.1 iq.2.2 hv h2 no with ⟨u, v⟩ | ⟨u, v⟩
  · have c := other (wC a w b p) (wC a w b r) (wC a w b q) (by unfold wC tn turnI; grind) iq.2.2 v
    exact O1.2.2.2.2 ⟨by rw [Int.mul_comm]; exact u, mul_neg_split v c⟩
  · have c := other (wA a w b p) (wA a w b r) (wA a w b q) (by unfold wA tn turnI; grind) iq.1 v
    exact O2.2.2.2.2 ⟨u, mul_neg_split v c⟩
/-- the line from w to the point of the triangle that is nearest to w goes well with all edges -/
theorem cut2 {X : List Eg} (S : Smp X) {a w b q : Pt} (ha : (a, w) ∈ X) (hb : (w, b) ∈ X) (hT : tn a w b ≠ 0) (hq : ∃ e ∈ X, EndOf q e) (nq : q ≠ w) (iq : In3 a w b q) (best : ∀ e ∈ X, ∀ x, EndOf x e → In3 a w b x → x ≠ w → wB a w b x ≤ wB a w b q) : ∀ e ∈ X, OK2 w q e.1 e.2 := by
  intro e he
  have lw := less_w hT iq nq
  have side : ∀ x, EndOf x e → box x w q = true → x = w ∨ x = q := fun x hx z => by
    by_cases xw : x = w
    · exact .inl xw
    · right
      have bx := best e he x hx (In3.ends (In3.w ..) iq z nq.symm) xw
      obtain ⟨D, al, be, hD, h0, h1, hs, e1, e2⟩ := on_mix z nq.symm
      have M := mix_tn hs e1 e2 b a
      have M2 : D * wB a w b x = al * (tn a w b * tn a w b) + be * wB a w b q := by
        have k : tn b a w = tn a w b := by unfold tn turnI; grind
        unfold wB
        rw [show D * (tn a w b * tn b a x) = tn a w b * (D * tn b a x) by grind, M, k]; grind
      have al0 : al = 0 := by
        rcases Int.lt_or_le 0 al with y | y
        · exfalso
          have i1 := Int.mul_lt_mul_of_pos_left lw y
          have i2 := Int.mul_le_mul_of_nonneg_left bx (show 0 ≤ D by omega)
          have i3 : D * wB a w b q = al * wB a w b q + be * wB a w b q := by rw [← hs, Int.add_mul]
          omega
        · omega
      subst al0
      have : be = D := by omega
      subst this
      rw [Int.zero_mul, Int.zero_add] at e1 e2
      exact pt_eq (cancel (by omega) e1) (cancel (by omega) e2)
  obtain ⟨f, hf, hqf⟩ := hq
  refine ⟨fun z => S.vert hb he (.inl rfl) z, fun z => S.vert hf he hqf z, fun z => side _ (.inl rfl) z, fun z => side _ (.inr rfl) z, fun z => ?_⟩
  have O1 := S.ok he ha
  have O2 := S.ok he hb
  have fw : tn e.1 e.2 w ≠ 0 := fun y => by have := z.2; rw [y, Int.zero_mul] at this; omega
  have n1 : e.1 ≠ w := fun y => fw (by rw [← y]; exact tn_a ..)
  have n2 : e.2 ≠ w := fun y => fw (by rw [← y]; exact tn_b ..)
  have ni : ∀ x, EndOf x e → x ≠ w → wB a w b q < wB a w b x → ¬ In3 a w b x := fun x hx n l i => by
    have := best e he x hx i n
    omega
  by_cases l1 : wB a w b q < wB a w b e.1
  · exact no_cross2 hT iq l1 (ni _ (.inl rfl) n1 l1) z.1 z.2 O1 O2
  · by_cases l2 : wB a w b q < wB a w b e.2
    · refine no_cross2 hT iq l2 (ni _ (.inr rfl) n2 l2) (by rw [Int.mul_comm]; exact z.1) ?_ O1.swp O2.swp
      rw [tn_flip, tn_flip e.1 e.2 q, show (0 - tn e.1 e.2 w) * (0 - tn e.1 e.2 q) = tn e.1 e.2 w * tn e.1 e.2 q by grind]
      exact z.2
    · -- the crossing is nearer to w than q, its ends are not
      have four := tn_four w q e.1 e.2
      have id : (wB a w b e.1 - wB a w b q) * tn w q e.2 - (wB a w b e.2 - wB a w b q) * tn w q e.1 = (tn a w b * tn a w b - wB a w b q) * (0 - tn e.1 e.2 q) := by
        unfold wB tn turnI; grind
      rcases neg_signs z.1 with ⟨u, v⟩ | ⟨u, v⟩
      · have i1 := prod_nn' (show wB a w b e.1 - wB a w b q ≤ 0 by omega) (show tn w q e.2 ≤ 0 by omega)
        have i2 := prod_pn (show wB a w b e.2 - wB a w b q ≤ 0 by omega) (show 0 ≤ tn w q e.1 by omega)
        have : 0 < tn e.1 e.2 q := by
          rcases neg_signs z.2 with ⟨x, y⟩ | ⟨x, y⟩ <;> omega
        have i3 := Int.mul_neg_of_pos_of_neg (show 0 < tn a w b * tn a w b - wB a w b q by omega) (show 0 - tn e.1 e.2 q < 0 by omega)
        omega
      · have i1 := prod_pn (show wB a w b e.1 - wB a w b q ≤ 0 by omega) (show 0 ≤ tn w q e.2 by omega)
        have i2 := prod_nn' (show wB a w b e.2 - wB a w b q ≤ 0 by omega) (show tn w q e.1 ≤ 0 by omega)
        have : tn e.1 e.2 q < 0 := by
          rcases neg_signs z.2 with ⟨x, y⟩ | ⟨x, y⟩ <;> omega
        have i3 := Int.mul_pos (show 0 < tn a w b * tn a w b - wB a w b q by omega) (show 0 < 0 - tn e.1 e.2 q by omega)
        omega
end My
namespace My
open PySem L2
/-! ## lists of points that go around: their edges, sums, turnings -/
theorem lex_one {A x y : Int} (hA : 0 ≤ A) (h0 : A * x = 0) (l : 0 < x ∨ (x = 0 ∧ 0 < y)) : 0 ≤ A * y ∧ (A * y = 0 → A = 0) := by
  rcases l with l | ⟨_, l⟩
  · have : A = 0 := by
      rcases Int.mul_eq_zero.mp h0 with z | z
      · exact z
      · omega
    subst this
    exact ⟨by omega, fun _ => rfl⟩
  · refine ⟨prod_nn hA (by omega), fun z => ?_⟩
    rcases Int.mul_eq_zero.mp z with y | y
    · exact y
    · omega
/-- a point that is less than the three corners is not in the triangle -/
theorem out_least {a w b v : Pt} (hT : tn a w b ≠ 0) (h1 : lt v a = true) (h2 : lt v w = true) (h3 : lt v b = true) : ¬ In3 a w b v := by
  rintro ⟨iA, iB, iC⟩
  rw [lt_iff] at h1 h2 h3
  have s := w_sum a w b v
  have x := w_x a w b v
  have y := w_y a w b v
  have hD := sq_nz hT
  have x' : wA a w b v * (a.1 - v.1) + wB a w b v * (w.1 - v.1) + wC a w b v * (b.1 - v.1) = 0 := by
    have : wA a w b v * (a.1 - v.1) + wB a w b v * (w.1 - v.1) + wC a w b v * (b.1 - v.1) = (wA a w b v * a.1 + wB a w b v * w.1 + wC a w b v * b.1) - (wA a w b v + wB a w b v + wC a w b v) * v.1 := by grind
    rw [this, x, s]; omega
  have y' : wA a w b v * (a.2 - v.2) + wB a w b v * (w.2 - v.2) + wC a w b v * (b.2 - v.2) = 0 := by
    have : wA a w b v * (a.2 - v.2) + wB a w b v * (w.2 - v.2) + wC a w b v * (b.2 - v.2) = (wA a w b v * a.2 + wB a w b v * w.2 + wC a w b v * b.2) - (wA a w b v + wB a w b v + wC a w b v) * v.2 := by grind
    rw [this, y, s]; omega
  have p1 := prod_nn iA (show 0 ≤ a.1 - v.1 by omega)
  have p2 := prod_nn iB (show 0 ≤ w.1 - v.1 by omega)
  have p3 := prod_nn iC (show 0 ≤ b.1 - v.1 by omega)
  obtain ⟨q1, r1⟩ := lex_one (x := a.1 - v.1) (y := a.2 - v.2) iA (by omega) (by omega)
  obtain ⟨q2, r2⟩ := lex_one (x := w.1 - v.1) (y := w.2 - v.2) iB (by omega) (by omega)
  obtain ⟨q3, r3⟩ := lex_one (x := b.1 - v.1) (y := b.2 - v.2) iC (by omega) (by omega)
  have := r1 (by omega)
  have := r2 (by omega)
  have := r3 (by omega)
  omega
/-- seen from b: m is on the same side of b a as v, so it lies between -/
theorem between {a b m v : Pt} {s : Int} (ha : lt b a = true) (hm : lt b m = true) (hv : lt v b = true) (h1 : 0 < s * tn b a m) (h2 : 0 < s * tn b a v) : 0 < s * tn b m v := by
  rw [lt_iff] at ha hm hv
  have ix : (s * tn b m v) * (a.1 - b.1) = (s * tn b a m) * (b.1 - v.1) + (s * tn b a v) * (m.1 - b.1) := by unfold tn turnI; grind
  have iy : (s * tn b m v) * (a.2 - b.2) = (s * tn b a m) * (b.2 - v.2) + (s * tn b a v) * (m.2 - b.2) := by unfold tn turnI; grind
  have p1 := prod_nn (show 0 ≤ s * tn b a m by omega) (show 0 ≤ b.1 - v.1 by omega)
  have p2 := prod_nn (show 0 ≤ s * tn b a v by omega) (show 0 ≤ m.1 - b.1 by omega)
  by_cases z : v.1 < b.1 ∨ b.1 < m.1
  · have pos : 0 < (s * tn b m v) * (a.1 - b.1) := by
      rcases z with z | z
      · have := Int.mul_pos h1 (show 0 < b.1 - v.1 by omega); omega
      · have := Int.mul_pos h2 (show 0 < m.1 - b.1 by omega); omega
    rcases Int.lt_or_le b.1 a.1 with g | g
    · exact sign_of (show 0 < a.1 - b.1 by omega) pos
    · rw [show a.1 - b.1 = 0 by omega, Int.mul_zero] at pos; omega
  · have k1 := Int.mul_pos h1 (show 0 < b.2 - v.2 by omega)
    have k2 := Int.mul_pos h2 (show 0 < m.2 - b.2 by omega)
    rw [show b.1 - v.1 = 0 by omega, show m.1 - b.1 = 0 by omega, Int.mul_zero, Int.mul_zero] at ix
    rcases Int.lt_or_le b.1 a.1 with g | g
    · have : s * tn b m v = 0 := by
        rcases Int.mul_eq_zero.mp (show (s * tn b m v) * (a.1 - b.1) = 0 by omega) with y | y
        · exact y
        · omega
      rw [this, Int.zero_mul] at iy
      omega
    · exact sign_of (show 0 < a.2 - b.2 by omega) (by omega)
/-- in the cone at a of the triangle a c b: in the triangle, or the way from a crosses c b -/
theorem cone {a c b p : Pt} (hB : 0 < wB a c b p) (hC : 0 < wC a c b p) : In3 a c b p ∨ (tn a p c * tn a p b < 0 ∧ tn c b a * tn c b p < 0) := by
  rcases Int.lt_or_le (wA a c b p) 0 with z | z
  · right
    constructor
    · have e : tn a p c = 0 - tn a c p := by unfold tn turnI; grind
      have e2 : tn a p b = tn b a p := by unfold tn turnI; grind
      rw [e, e2]
      refine mul_neg_split (t := tn a c b) ?_ hB
      show tn a c b * (0 - tn a c p) < 0
      unfold wC at hC
      rw [show tn a c b * (0 - tn a c p) = 0 - tn a c b * tn a c p by grind]; omega
    · have e : tn c b a = tn a c b := by unfold tn turnI; grind
      rw [e]; exact z
  · exact .inl ⟨z, by omega, by omega⟩
/-- the same at b -/
theorem cone' {a c b p : Pt} (hB : 0 < wB a c b p) (hA : 0 < wA a c b p) : In3 a c b p ∨ (tn b p a * tn b p c < 0 ∧ tn a c b * tn a c p < 0) := by
  rcases Int.lt_or_le (wC a c b p) 0 with z | z
  · right
    refine ⟨?_, z⟩
    have e : tn b p a = 0 - tn b a p := by unfold tn turnI; grind
    have e2 : tn b p c = tn c b p := by unfold tn turnI; grind
    rw [e, e2]
    refine mul_neg_split (t := tn a c b) ?_ hA
    unfold wB at hB
    rw [show tn a c b * (0 - tn b a p) = 0 - tn a c b * tn b a p by grind]; omega
  · exact .inl ⟨by omega, by omega, z⟩
def path : List Pt → List Eg
  | x :: y :: r => (x, y) :: path (y :: r)
  | _ => []
def loopE (l : List Pt) : List Eg := path (l ++ l.head?.toList)
def cr2 (e : Eg) : Int := e.1.1 * e.2.2 - e.1.2 * e.2.1
def su (E : List Eg) : Int := (E.map cr2).sum
theorem su_app (E F : List Eg) : su (E ++ F) = su E + su F := by unfold su; rw [List.map_append, List.sum_append]
theorem su_one (e : Eg) : su [e] = cr2 e := by unfold su; simp
theorem su_cons (e : Eg) (E : List Eg) : su (e :: E) = cr2 e + su E := by unfold su; simp
theorem path_app : ∀ (s t : List Pt) (u h : Pt), s.getLast? = some u → t.head? = some h → path (s ++ t) = path s ++ (u, h) :: path t
  | [], _, _, _, h, _ => by simp at h
  | [x], t, u, h, e, f => by
    cases t with
    | nil => simp at f
    | cons y r =>
      simp at e f
      subst e; subst f
      rfl
  | x :: y :: r, t, u, h, e, f => by
    show (x, y) :: path ((y :: r) ++ t) = _
    rw [path_app (y :: r) t u h (by rw [List.getLast?_cons_cons] at e; exact e) f]
    rfl
theorem path_mem : ∀ (l : List Pt) (e : Eg), e ∈ path l → e.1 ∈ l ∧ e.2 ∈ l
  | [], _, h => by cases h
  | [_], _, h => by cases h
  | x :: y :: r, e, h => by
    rcases List.mem_cons.mp h with rfl | h
    · exact ⟨by simp, by simp⟩
    · have := path_mem (y :: r) e h
      exact ⟨List.mem_cons_of_mem _ this.1, List.mem_cons_of_mem _ this.2⟩
theorem loop_eq {l : List Pt} {a b : Pt} (hb : l.head? = some b) (ha : l.getLast? = some a) : loopE l = path l ++ [(a, b)] := by
  unfold loopE
  rw [hb]
  show path (l ++ [b]) = _
  rw [path_app l [b] a b ha rfl]
  rfl
theorem loop_cons {l : List Pt} {a b v : Pt} (hb : l.head? = some b) (ha : l.getLast? = some a) : loopE (v :: l) = (v, b) :: (path l ++ [(a, v)]) := by
  have hl : (v :: l).getLast? = some a := by
    cases l with
    | nil => simp at ha
    | cons y r => rw [List.getLast?_cons_cons]; exact ha
  rw [loop_eq (b := v) rfl hl]
  have := path_app [v] l v b rfl hb
  rw [show v :: l = [v] ++ l from rfl, this]
  rfl
theorem loop_app {s t : List Pt} {s0 s1 t0 t1 : Pt} (a1 : s.head? = some s0) (a2 : s.getLast? = some s1) (b1 : t.head? = some t0) (b2 : t.getLast? = some t1) : loopE (s ++ t) = path s ++ (s1, t0) :: (path t ++ [(t1, s0)]) := by
  have h1 : (s ++ t).head? = some s0 := by
    cases s with
    | nil => simp at a1
    | cons y r => simpa using a1
  have h2 : (s ++ t).getLast? = some t1 := by rw [List.getLast?_append, b2]; rfl
  rw [loop_eq h1 h2, path_app s t s1 t0 a2 b1]
  simp
theorem ends_of {l : List Pt} (h : l ≠ []) : ∃ b a, l.head? = some b ∧ l.getLast? = some a := by
  cases l with
  | nil => exact absurd rfl h
  | cons x r => exact ⟨x, _, rfl, List.getLast?_eq_some_getLast (by simp)⟩
theorem loop_rot {s t : List Pt} (hs : s ≠ []) (ht : t ≠ []) : su (loopE (s ++ t)) = su (loopE (t ++ s)) ∧ ∀ e, e ∈ loopE (s ++ t) ↔ e ∈ loopE (t ++ s) := by
  obtain ⟨s0, s1, a1, a2⟩ := ends_of hs
  obtain ⟨t0, t1, b1, b2⟩ := ends_of ht
  rw [loop_app a1 a2 b1 b2, loop_app b1 b2 a1 a2]
  constructor
  · simp only [su_app, su_cons, su_one]; omega
  · intro e
    simp only [List.mem_append, List.mem_cons, List.not_mem_nil, or_false]
    constructor <;> (rintro (h | h | h | h) <;> simp [h])
end My
namespace My
open PySem L2
/-! ## what goes around simply has an area, and its sign is that of the turn at its least point -/
theorem sgnT {x y T : Int} (h : 0 < x * y) (h2 : 0 ≤ T * y) (h3 : T ≠ 0) : 0 < x * T := by
  rcases Int.lt_trichotomy y 0 with q | q | q
  · have hx : x < 0 := sign_ofp q h
    have hT : T < 0 := by
      rcases Int.lt_or_le T 0 with z | z
      · exact z
      · have := Int.mul_neg_of_pos_of_neg (show 0 < T by omega) q; omega
    exact Int.mul_pos_of_neg_of_neg hx hT
  · subst q; simp at h
  · have hx : 0 < x := sign_of q h
    have hT : 0 ≤ T := sign_of0 q h2
    exact Int.mul_pos hx (by omega)
theorem sgnT2 {x y z : Int} (h : 0 < x * y) (g : 0 < x * z) : 0 < y * z := by
  rcases Int.lt_trichotomy x 0 with q | q | q
  · exact Int.mul_pos_of_neg_of_neg (sign_ofp q (by rw [Int.mul_comm]; exact h)) (sign_ofp q (by rw [Int.mul_comm]; exact g))
  · subst q; simp at h
  · exact Int.mul_pos (sign_of q (by rw [Int.mul_comm]; exact h)) (sign_of q (by rw [Int.mul_comm]; exact g))
theorem pos_nz {x y : Int} (h : 0 < x * y) : y ≠ 0 := fun z => by subst z; simp at h
theorem lt_nex {a b : Pt} (h : lt a b = true) : a ≠ b := fun z => by subst z; rw [lt_irr] at h; cases h
theorem Smp.cons {X : List Eg} {a b : Pt} (S : Smp X) (h : ∀ e ∈ X, OK2 a b e.1 e.2) : Smp ((a, b) :: X) := by
  intro e he f hf n
  rcases List.mem_cons.mp he with rfl | he <;> rcases List.mem_cons.mp hf with rfl | hf
  · exact absurd rfl n
  · exact h f hf
  · exact (h e he).sym
  · exact S e he f hf n
theorem turn_nz {v a b : Pt} {X : List Eg} (S : Smp X) (ha : (a, v) ∈ X) (hb : (v, b) ∈ X) (la : lt v a = true) (lb : lt v b = true) (n : a ≠ b) : tn a v b ≠ 0 := by
  intro z
  have O := S.ok ha hb
  cases e : lt b a with
  | true =>
    have : on b v a = true := on_iff.mpr ⟨by rw [show tn v a b = 0 - tn a v b from tn_flip ..]; omega, lt_le lb, lt_le e⟩
    rw [on_box la, ← box_swap] at this
    rcases O.2.2.2.1 this with y | y
    · exact n y.symm
    · exact lt_nex lb y.symm
  | false =>
    have : on a v b = true := on_iff.mpr ⟨by rw [tn_cyc]; exact z, lt_le la, e⟩
    rw [on_box lb] at this
    rcases O.1 this with y | y
    · exact lt_nex la y.symm
    · exact n y
theorem head_last {l : List Pt} {a b : Pt} (hb : l.head? = some b) (ha : l.getLast? = some a) (nd : l.Nodup) (h : 2 ≤ l.length) : a ≠ b := by
  cases l with
  | nil => simp at hb
  | cons x r =>
    cases r with
    | nil => simp at h
    | cons y s =>
      simp at hb
      subst hb
      rw [List.getLast?_cons_cons] at ha
      have m := List.mem_of_getLast? ha
      intro z
      subst z
      exact (List.nodup_cons.mp nd).1 m
theorem head_mem {l : List Pt} {b : Pt} (hb : l.head? = some b) : b ∈ l := List.mem_of_mem_head? hb
theorem max_of (P : Pt → Prop) (f : Pt → Int) : ∀ l : List Pt, (∃ x ∈ l, P x) → ∃ q ∈ l, P q ∧ ∀ x ∈ l, P x → f x ≤ f q
  | [], h => by obtain ⟨x, hx, _⟩ := h; cases hx
  | y :: r, h => by
    by_cases g : ∃ x ∈ r, P x
    · obtain ⟨q, hq, pq, mx⟩ := max_of P f r g
      by_cases c : P y ∧ f q < f y
      · refine ⟨y, by simp, c.1, fun x hx px => ?_⟩
        rcases List.mem_cons.mp hx with rfl | hx
        · omega
        · have := mx x hx px; omega
      · refine ⟨q, List.mem_cons_of_mem _ hq, pq, fun x hx px => ?_⟩
        rcases List.mem_cons.mp hx with rfl | hx
        · rcases Int.lt_or_le (f q) (f x) with z | z
          · exact absurd ⟨px, z⟩ c
          · exact z
        · exact mx x hx px
    · obtain ⟨x, hx, px⟩ := h
      rcases List.mem_cons.mp hx with rfl | hx
      · refine ⟨x, by simp, px, fun u hu pu => ?_⟩
        rcases List.mem_cons.mp hu with rfl | hu
        · omega
        · exact absurd ⟨u, hu, pu⟩ g
      · exact absurd ⟨x, hx, px⟩ g
theorem path_cut {s t : List Pt} {q : Pt} (hs : s ≠ []) : path (s ++ q :: t) = path (s ++ [q]) ++ path (q :: t) := by
  obtain ⟨_, u, _, hu⟩ := ends_of hs
  rw [path_app s (q :: t) u q hu rfl, path_app s [q] u q hu rfl, List.append_assoc]
  rfl
theorem cr2_tri (a v b : Pt) : cr2 (v, b) + cr2 (a, v) - cr2 (a, b) = tn a v b := by unfold cr2 tn turnI; grind
theorem cr2_back (a b : Pt) : cr2 (a, b) + cr2 (b, a) = 0 := by unfold cr2; grind
def AreaS (n : Nat) : Prop := ∀ (l : List Pt) (v b a : Pt), l.length ≤ n → 2 ≤ l.length → l.head? = some b → l.getLast? = some a → (v :: l).Nodup → Smp (loopE (v :: l)) → (∀ x ∈ l, lt v x = true) → 0 < su (loopE (v :: l)) * tn a v b
def AreaT (n : Nat) : Prop := ∀ (l : List Pt) (v b a : Pt), l.length ≤ n → 3 ≤ l.length → l.head? = some b → l.getLast? = some a → l.Nodup → Smp ((v, b) :: (a, v) :: loopE l) → (∀ x ∈ l, lt v x = true) → tn a v b ≠ 0 → (∀ x ∈ l, x ≠ a → x ≠ b → ¬ In3 a v b x) → 0 < su (loopE l) * tn a v b
theorem stepS {n : Nat} (HS : AreaS n) (HT : AreaT (n + 1)) : AreaS (n + 1) := by
  intro l v b a hn h2 hb ha nd sm lv
  obtain ⟨nv, nl⟩ := List.nodup_cons.mp nd
  have L := loop_cons (v := v) hb ha
  have mb := head_mem hb
  have ma := List.mem_of_getLast? ha
  have nab := head_last hb ha nl h2
  have m1 : (a, v) ∈ loopE (v :: l) := by rw [L]; simp
  have m2 : (v, b) ∈ loopE (v :: l) := by rw [L]; simp
  have hT := turn_nz sm m1 m2 (lv a ma) (lv b mb) nab
  have hD := sq_nz hT
  have only : ∀ e ∈ loopE (v :: l), EndOf v e → e = (a, v) ∨ e = (v, b) := by
    intro e he hv
    rw [L] at he
    rcases List.mem_cons.mp he with h | h
    · exact .inr h
    · rcases List.mem_append.mp h with h | h
      · exfalso
        have := path_mem l e h
        rcases hv with y | y
        · exact nv (y ▸ this.1)
        · exact nv (y ▸ this.2)
      · exact .inl (by simpa using h)
  have ends : ∀ e ∈ loopE (v :: l), ∀ x, EndOf x e → x = v ∨ x ∈ l := by
    intro e he x hx
    rw [L] at he
    rcases List.mem_cons.mp he with h | h
    · subst h
      rcases hx with y | y
      · exact .inl y
      · exact .inr (y ▸ mb)
    · rcases List.mem_append.mp h with h | h
      · have := path_mem l e h
        rcases hx with y | y
        · exact .inr (y ▸ this.1)
        · exact .inr (y ▸ this.2)
      · have : e = (a, v) := by simpa using h
        subst this
        rcases hx with y | y
        · exact .inr (y ▸ ma)
        · exact .inl y
  by_cases C : ∀ x ∈ l, x ≠ a → x ≠ b → ¬ In3 a v b x
  · have K := cut1 sm m1 m2 hT only (fun e he x hx i => by
      rcases ends e he x hx with y | y
      · exact .inr (.inl y)
      · by_cases q : x = a
        · exact .inl q
        · by_cases r : x = b
          · exact .inr (.inr r)
          · exact absurd i (C x y q r))
    have LL := loop_eq hb ha
    have sum : su (loopE (v :: l)) = su (loopE l) + tn a v b := by
      rw [L, LL, su_cons, su_app, su_app, su_one, su_one, ← cr2_tri]; omega
    rw [sum, Int.add_mul]
    by_cases h3 : 3 ≤ l.length
    · have := HT l v b a hn h3 hb ha nl ((sm.cons K).sub (fun e he => by
        rw [LL] at he
        rw [L]
        simp only [List.mem_cons, List.mem_append, List.not_mem_nil, or_false] at he ⊢
        rcases he with h | h | h | h <;> simp [h])) lv hT C
      omega
    · obtain ⟨x, y, rfl⟩ : ∃ x y, l = [x, y] := by
        match l, h2, h3 with
        | [x, y], _, _ => exact ⟨x, y, rfl⟩
        | [], h, _ => simp at h
        | [_], h, _ => simp at h
        | _ :: _ :: _ :: _, _, h => simp at h
      simp at hb ha
      subst hb; subst ha
      have : su (loopE [x, y]) = 0 := by
        rw [LL, su_app, su_one]
        show su [(x, y)] + _ = 0
        rw [su_one]
        exact cr2_back ..
      rw [this]
      omega
  · obtain ⟨q, hq, ⟨qa, qb, iq⟩, mx⟩ := max_of (fun x => x ≠ a ∧ x ≠ b ∧ In3 a v b x) (wB a v b) l (by
      apply Classical.byContradiction
      intro z
      exact C fun x hx xa xb i => z ⟨x, hx, xa, xb, i⟩)
    have K := cut2 sm m1 m2 hT (q := q) (by
      have : ∃ e ∈ loopE (v :: l), EndOf q e := by
        obtain ⟨s, t, e⟩ := List.append_of_mem hq
        cases s with
        | nil =>
          rw [e] at hb; simp at hb
          exact absurd hb qb
        | cons y r =>
          refine ⟨((y :: r).getLast (by simp), q), ?_, .inr rfl⟩
          rw [L, e, path_app (y :: r) (q :: t) _ q (List.getLast?_eq_some_getLast (by simp)) rfl]
          simp
      exact this) (fun z => nv (z ▸ hq)) iq (fun e he x hx i xv => by
        rcases ends e he x hx with y | y
        · exact absurd y xv
        · by_cases xa : x = a
          · subst xa; rw [wB_a]; exact iq.2.1
          · by_cases xb : x = b
            · subst xb; rw [wB_b]; exact iq.2.1
            · exact mx x y ⟨xa, xb, i⟩)
    obtain ⟨s, t, e⟩ := List.append_of_mem hq
    have hs : s ≠ [] := fun z => by rw [e, z] at hb; simp at hb; exact qb hb
    have ht : t ≠ [] := fun z => by rw [e, z] at ha; simp at ha; exact qa ha
    have b1 : (s ++ [q]).head? = some b := by
      rw [e] at hb
      cases s with
      | nil => exact absurd rfl hs
      | cons y r => simpa using hb
    have a1 : (s ++ [q]).getLast? = some q := by simp
    have a2 : (q :: t).getLast? = some a := by
      rw [e, List.getLast?_append] at ha
      obtain ⟨_, u, _, hu⟩ := ends_of (l := q :: t) (by simp)
      rw [hu] at ha ⊢
      simpa using ha
    have P := path_cut (t := t) (q := q) hs
    rw [← e] at P
    have L1 := loop_cons (v := v) b1 a1
    have L2 := loop_cons (v := v) (l := q :: t) rfl a2
    have len : l.length = s.length + t.length + 1 := by rw [e]; simp; omega
    have ps := List.length_pos_iff.mpr hs
    have pt := List.length_pos_iff.mpr ht
    have sub1 : ∀ x ∈ s ++ [q], x ∈ l := fun x hx => by
      rw [e]; simp only [List.mem_append, List.mem_cons, List.not_mem_nil, or_false] at hx ⊢
      rcases hx with h | h <;> simp [h]
    have sub2 : ∀ x ∈ q :: t, x ∈ l := fun x hx => by rw [e]; exact List.mem_append_right _ hx
    have nd1 : (s ++ [q]).Nodup := by
      rw [e, show s ++ q :: t = (s ++ [q]) ++ t by simp] at nl
      exact (List.nodup_append.mp nl).1
    have nd2 : (q :: t).Nodup := by
      rw [e] at nl
      exact (List.nodup_append.mp nl).2.1
    have g1 := HS (s ++ [q]) v b q (by simp; omega) (by simp; omega) b1 a1 (List.nodup_cons.mpr ⟨fun z => nv (sub1 v z), nd1⟩) ((sm.cons (fun e he => (K e he).swp)).sub (fun e he => by
      rw [L1] at he
      rw [L, P]
      simp only [List.mem_cons, List.mem_append, List.not_mem_nil, or_false] at he ⊢
      rcases he with h | h | h <;> simp [h])) (fun x hx => lv x (sub1 x hx))
    have g2 := HS (q :: t) v q a (by simp; omega) (by simp; omega) rfl a2 (List.nodup_cons.mpr ⟨fun z => nv (sub2 v z), nd2⟩) ((sm.cons K).sub (fun e he => by
      rw [L2] at he
      rw [L, P]
      simp only [List.mem_cons, List.mem_append, List.not_mem_nil, or_false] at he ⊢
      rcases he with h | h | h <;> simp [h])) (fun x hx => lv x (sub2 x hx))
    have s1 : 0 < su (loopE (v :: (s ++ [q]))) * tn a v b := sgnT g1 (by have := iq.1; unfold wA at this; rw [tn_cyc q v b] at this; exact this) hT
    have s2 : 0 < su (loopE (v :: q :: t)) * tn a v b := sgnT g2 iq.2.2 hT
    have sum : su (loopE (v :: l)) = su (loopE (v :: (s ++ [q]))) + su (loopE (v :: q :: t)) := by
      rw [L, L1, L2, P]
      have nil : su [] = 0 := rfl
      simp only [su_cons, su_app, su_one, nil]
      have cb := cr2_back q v
      omega
    rw [sum, Int.add_mul]
    omega
theorem stepT {n : Nat} (HS : AreaS n) (HT : AreaT n) : AreaT (n + 1) := by
  intro l v b a hn h3 hb ha nl sm lv hT free
  have LL := loop_eq hb ha
  have mb := head_mem hb
  have ma := List.mem_of_getLast? ha
  have nab := head_last hb ha nl (by omega)
  have hD := sq_nz hT
  have x1 : (v, b) ∈ (v, b) :: (a, v) :: loopE l := by simp
  have x2 : (a, v) ∈ (v, b) :: (a, v) :: loopE l := by simp
  have nvl : ∀ x ∈ l, x ≠ v := fun x hx => (lt_nex (lv x hx)).symm
  have smL : Smp (loopE l) := sm.sub fun e he => by simp [he]
  obtain ⟨w, hw, least⟩ := least_of l (fun z => by rw [z] at hb; cases hb)
  have lw : ∀ x ∈ l, x ≠ w → lt w x = true := fun x hx n => by
    cases e : lt w x with
    | true => rfl
    | false => exact absurd (lt_tri (least x hx) e) n
  by_cases wb : w = b
  · subst wb
    obtain ⟨r, rfl⟩ : ∃ r, l = w :: r := by
      cases l with
      | nil => simp at hb
      | cons x r => simp at hb; subst hb; exact ⟨r, rfl⟩
    have lr : 2 ≤ r.length := by simp at h3; omega
    obtain ⟨m, a', hm, ha'⟩ := ends_of (l := r) (fun z => by rw [z] at lr; simp at lr)
    have : a' = a := by
      cases r with
      | nil => simp at lr
      | cons y s => rw [List.getLast?_cons_cons] at ha; rw [ha] at ha'; exact (Option.some.inj ha').symm
    subst this
    obtain ⟨nw, ndr⟩ := List.nodup_cons.mp nl
    have mr := head_mem hm
    have nma := head_last hm ha' ndr lr
    have nmw : m ≠ w := fun z => nw (z ▸ mr)
    have S := HS r w m a' (by simp at hn; omega) lr hm ha' nl smL (fun x hx => lw x (List.mem_cons_of_mem _ hx) fun z => nw (z ▸ hx))
    refine sgnT S ?_ hT
    rcases Int.lt_or_le (tn a' v w * tn a' w m) 0 with neg | z
    · exfalso
      have wb0 : 0 < wB a' v w m := by
        unfold wB
        rw [show tn w a' m = 0 - tn a' w m from tn_flip .., show tn a' v w * (0 - tn a' w m) = 0 - tn a' v w * tn a' w m by grind]; omega
      have wa0 : 0 < wA a' v w m := by
        have bt := between (a := a') (b := w) (m := m) (v := v) (s := tn a' v w) (lw a' ma (fun z => nw (z ▸ List.mem_of_getLast? ha'))) (lw m (List.mem_cons_of_mem _ mr) nmw) (lv w hw) wb0 (by rw [show tn w a' v = tn a' v w by unfold tn turnI; grind]; exact hD)
        unfold wA
        rw [show tn v w m = tn w m v by unfold tn turnI; grind]; exact bt
      rcases cone' wb0 wa0 with i | i
      · exact free m (List.mem_cons_of_mem _ mr) nma.symm nmw i
      · have he : (w, m) ∈ (v, w) :: (a', v) :: loopE (w :: r) := by
          rw [loop_cons hm ha']; simp
        exact (sm.ok he x2).2.2.2.2 i
    · exact z
  · by_cases wa : w = a
    · subst wa
      obtain ⟨r, rfl⟩ : ∃ r, l = r ++ [w] := by
        have ne : l ≠ [] := fun z => by rw [z] at ha; cases ha
        have e := List.dropLast_concat_getLast ne
        rw [List.getLast?_eq_some_getLast ne] at ha
        rw [Option.some.inj ha] at e
        exact ⟨_, e.symm⟩
      have lr : 2 ≤ r.length := by simp at h3; omega
      have rn : r ≠ [] := fun z => by rw [z] at lr; simp at lr
      obtain ⟨b', z, hb', hz⟩ := ends_of rn
      have : b' = b := by
        cases r with
        | nil => exact absurd rfl rn
        | cons y s => simp at hb hb'; rw [← hb, ← hb']
      subst this
      obtain ⟨ndr, _, dis⟩ := List.nodup_append.mp nl
      have nw : w ∉ r := fun q => dis w q w (by simp) rfl
      have mz := List.mem_of_getLast? hz
      have nzb := head_last hb' hz ndr lr
      have nzw : z ≠ w := fun q => nw (q ▸ mz)
      obtain ⟨rot, mem⟩ := loop_rot (s := r) (t := [w]) rn (by simp)
      rw [rot]
      have S := HS r w b' z (by simp at hn; omega) lr hb' hz (List.nodup_cons.mpr ⟨nw, ndr⟩) (smL.sub fun e he => (mem e).mpr he) (fun x hx => lw x (by simp [hx]) fun q => nw (q ▸ hx))
      refine sgnT S ?_ hT
      rcases Int.lt_or_le (tn w v b' * tn z w b') 0 with neg | q
      · exfalso
        have wb0 : 0 < wB w v b' z := by
          unfold wB
          rw [show tn b' w z = 0 - tn z w b' by unfold tn turnI; grind, show tn w v b' * (0 - tn z w b') = 0 - tn w v b' * tn z w b' by grind]; omega
        have wc0 : 0 < wC w v b' z := by
          have bt := between (a := b') (b := w) (m := z) (v := v) (s := 0 - tn w v b') (lw b' mb (fun q => nw (q ▸ head_mem hb'))) (lw z (by simp [mz]) nzw) (lv w hw) (by
            rw [show (0 - tn w v b') * tn w b' z = tn w v b' * tn b' w z by unfold tn turnI; grind]; exact wb0) (by
            rw [show (0 - tn w v b') * tn w b' v = tn w v b' * tn w v b' by unfold tn turnI; grind]; exact hD)
          unfold wC
          rw [show tn w v b' * tn w v z = (0 - tn w v b') * tn w z v by unfold tn turnI; grind]; exact bt
        rcases cone wb0 wc0 with i | i
        · exact free z (by simp [mz]) nzw nzb i
        · have he : (z, w) ∈ (v, b') :: (w, v) :: loopE (r ++ [w]) := by
            rw [loop_app hb' hz (t := [w]) rfl rfl]; simp
          exact ((sm.ok he x1).swp).2.2.2.2 i
      · exact q
    · obtain ⟨s, t, e⟩ := List.append_of_mem hw
      have hs : s ≠ [] := fun z => by rw [e, z] at hb; simp at hb; exact wb hb
      have ht : t ≠ [] := fun z => by rw [e, z] at ha; simp at ha; exact wa ha
      obtain ⟨b0, a', hb0, ha'⟩ := ends_of hs
      obtain ⟨b', a0, hb', ha0⟩ := ends_of ht
      have eb : b0 = b := by
        rw [e] at hb
        cases s with
        | nil => exact absurd rfl hs
        | cons y r => simp at hb hb0; rw [← hb, ← hb0]
      have ea : a0 = a := by
        rw [e, List.getLast?_append, show (w :: t).getLast? = some a0 by
          cases t with
          | nil => exact absurd rfl ht
          | cons y r => rw [List.getLast?_cons_cons]; exact ha0] at ha
        simpa using ha
      subst eb; subst ea
      have len : l.length = s.length + t.length + 1 := by rw [e]; simp; omega
      have ps := List.length_pos_iff.mpr hs
      have pt := List.length_pos_iff.mpr ht
      have rot := loop_rot (s := s) (t := w :: t) hs (by simp)
      rw [← e] at rot
      obtain ⟨rot, mem⟩ := rot
      have R1 : (t ++ s).head? = some b' := by
        cases t with
        | nil => exact absurd rfl ht
        | cons y r => simpa using hb'
      have R2 : (t ++ s).getLast? = some a' := by rw [List.getLast?_append, ha']; rfl
      have LW := loop_cons (v := w) R1 R2
      rw [show w :: t ++ s = w :: (t ++ s) from rfl] at rot mem
      have inR : ∀ x, x ∈ l ↔ x = w ∨ x ∈ t ++ s := fun x => by
        rw [e]; simp only [List.mem_append, List.mem_cons]
        constructor <;> (rintro (h | h | h) <;> simp [h])
      have ndW : (w :: (t ++ s)).Nodup := by
        have : (s ++ w :: t).Nodup := e ▸ nl
        rw [show w :: (t ++ s) = (w :: t) ++ s from rfl]
        exact (List.perm_append_comm).nodup_iff.mp this
      obtain ⟨nwR, ndR⟩ := List.nodup_cons.mp ndW
      have ndst : (s ++ t).Nodup := (List.perm_append_comm).nodup_iff.mp ndR
      have mb' := head_mem R1
      have ma' := List.mem_of_getLast? R2
      have lR : ∀ x ∈ t ++ s, lt w x = true := fun x hx => lw x ((inR x).mpr (.inr hx)) fun z => nwR (z ▸ hx)
      have SW := HS (t ++ s) w b' a' (by simp; omega) (by simp; omega) R1 R2 ndW (smL.sub fun e he => (mem e).mpr he) lR
      rw [rot]
      have hT1 := pos_nz SW
      have hD1 := sq_nz hT1
      have nab1 := head_last R1 R2 ndR (by simp; omega)
      refine sgnT SW ?_ hT
      have y1 : (a', w) ∈ (v, b0) :: (a0, v) :: loopE l := by
        have : (a', w) ∈ loopE l := (mem _).mpr (by rw [LW]; simp)
        simp [this]
      have y2 : (w, b') ∈ (v, b0) :: (a0, v) :: loopE l := by
        have : (w, b') ∈ loopE l := (mem _).mpr (by rw [LW]; simp)
        simp [this]
      have inX : ∀ e ∈ (v, b0) :: (a0, v) :: loopE l, e = (v, b0) ∨ e = (a0, v) ∨ e = (w, b') ∨ e ∈ path (t ++ s) ∨ e = (a', w) := by
        intro e he
        rcases List.mem_cons.mp he with h | h
        · exact .inl h
        · rcases List.mem_cons.mp h with h | h
          · exact .inr (.inl h)
          · have := (mem e).mp h
            rw [LW] at this
            simp only [List.mem_cons, List.mem_append, List.not_mem_nil, or_false] at this
            exact .inr (.inr this)
      have toX : ∀ e, e ∈ path (t ++ s) → e ∈ (v, b0) :: (a0, v) :: loopE l := fun e he => by
        have : e ∈ loopE l := (mem e).mpr (by rw [LW]; simp [he])
        simp [this]
      have nwv : w ≠ v := nvl w hw
      have only : ∀ e ∈ (v, b0) :: (a0, v) :: loopE l, EndOf w e → e = (a', w) ∨ e = (w, b') := by
        intro e he hx
        rcases inX e he with h | h | h | h | h
        · subst h
          rcases hx with y | y
          · exact absurd y nwv
          · exact absurd y wb
        · subst h
          rcases hx with y | y
          · exact absurd y wa
          · exact absurd y nwv
        · exact .inr h
        · exfalso
          have := path_mem _ e h
          rcases hx with y | y
          · exact nwR (y ▸ this.1)
          · exact nwR (y ▸ this.2)
        · exact .inl h
      have ends : ∀ e ∈ (v, b0) :: (a0, v) :: loopE l, ∀ x, EndOf x e → x = v ∨ x = w ∨ x ∈ t ++ s := by
        intro e he x hx
        have mv : ∀ z ∈ l, z = v ∨ z = w ∨ z ∈ t ++ s := fun z hz => .inr ((inR z).mp hz)
        rcases inX e he with h | h | h | h | h
        · subst h
          rcases hx with y | y
          · exact .inl y
          · exact mv x (by rw [y]; exact mb)
        · subst h
          rcases hx with y | y
          · exact mv x (by rw [y]; exact ma)
          · exact .inl y
        · subst h
          rcases hx with y | y
          · exact .inr (.inl y)
          · exact .inr (.inr (by rw [y]; exact mb'))
        · have := path_mem _ e h
          rcases hx with y | y
          · exact .inr (.inr (by rw [y]; exact this.1))
          · exact .inr (.inr (by rw [y]; exact this.2))
        · subst h
          rcases hx with y | y
          · exact .inr (.inr (by rw [y]; exact ma'))
          · exact .inr (.inl y)
      have outV : ¬ In3 a' w b' v := out_least hT1 (lv a' ((inR _).mpr (.inr ma'))) (lv w hw) (lv b' ((inR _).mpr (.inr mb')))
      show 0 ≤ tn a0 v b0 * tn a' w b'
      suffices h : 0 < tn a' w b' * tn a0 v b0 by rw [Int.mul_comm]; omega
      by_cases C : ∀ x ∈ t ++ s, x ≠ a' → x ≠ b' → ¬ In3 a' w b' x
      · by_cases l3 : 3 ≤ (t ++ s).length
        · have K := cut1 sm y1 y2 hT1 only (fun e he x hx i => by
            rcases ends e he x hx with y | y | y
            · subst y; exact absurd i outV
            · exact .inr (.inl y)
            · by_cases q : x = a'
              · exact .inl q
              · by_cases r : x = b'
                · exact .inr (.inr r)
                · exact absurd i (C x y q r))
          have LR := loop_eq R1 R2
          have T1 := HT (t ++ s) w b' a' (by simp; omega) l3 R1 R2 ndR ((sm.cons K).sub fun e he => by
            rw [LR] at he
            simp only [List.mem_cons, List.mem_append, List.not_mem_nil, or_false] at he
            rcases he with h | h | h | h
            · rw [h]; exact List.mem_cons_of_mem _ y2
            · rw [h]; exact List.mem_cons_of_mem _ y1
            · exact List.mem_cons_of_mem _ (toX e h)
            · rw [h]; simp) lR hT1 C
          obtain ⟨rot2, mem2⟩ := loop_rot (s := s) (t := t) hs ht
          have h1 : (s ++ t).head? = some b0 := by
            cases s with
            | nil => exact absurd rfl hs
            | cons y r => simpa using hb0
          have h2 : (s ++ t).getLast? = some a0 := by rw [List.getLast?_append, ha0]; rfl
          have sub : ∀ x ∈ s ++ t, x ∈ l := fun x hx => (inR x).mpr (.inr (by simp only [List.mem_append] at hx ⊢; exact hx.symm))
          have T0 := HT (s ++ t) v b0 a0 (by simp; omega) (by simp at l3 ⊢; omega) h1 h2 ndst ((sm.cons K).sub fun e he => by
            rcases List.mem_cons.mp he with h | he
            · rw [h]; simp
            · rcases List.mem_cons.mp he with h | he
              · rw [h]; simp
              · have := (mem2 e).mp he
                rw [LR] at this
                simp only [List.mem_append, List.mem_cons, List.not_mem_nil, or_false] at this
                rcases this with h | h
                · exact List.mem_cons_of_mem _ (toX e (by simpa using h))
                · rw [h]; simp) (fun x hx => lv x (sub x hx)) hT (fun x hx => free x (sub x hx))
          rw [rot2] at T0
          exact sgnT2 T1 T0
        · obtain ⟨p, rfl⟩ : ∃ p, s = [p] := by
            match s, ps with
            | [p], _ => exact ⟨p, rfl⟩
            | _ :: _ :: _, _ => simp at l3; omega
          obtain ⟨p2, rfl⟩ : ∃ p, t = [p] := by
            match t, pt with
            | [p], _ => exact ⟨p, rfl⟩
            | _ :: _ :: _, _ => simp at l3
          simp at hb0 ha' hb' ha0
          subst hb0; subst ha'; subst hb'; subst ha0
          have lwa := lw p2 ma (fun z => wa z.symm)
          rcases Int.lt_trichotomy (tn p w p2 * tn p2 v p) 0 with neg | z | z
          · exfalso
            have wb0 : 0 < wB p2 v p w := by
              unfold wB
              rw [show tn p2 v p * tn p p2 w = 0 - tn p w p2 * tn p2 v p by unfold tn turnI; grind]; omega
            rcases Int.lt_trichotomy (tn p2 v p * tn p2 v w) 0 with u | u | u
            · have k : tn p2 w p = 0 - tn p w p2 := by unfold tn turnI; grind
              have hB : 0 < wB p2 w p v := by
                unfold wB
                rw [k, show tn p p2 v = tn p2 v p by unfold tn turnI; grind, show (0 - tn p w p2) * tn p2 v p = 0 - tn p w p2 * tn p2 v p by grind]; omega
              have hC : 0 < wC p2 w p v := by
                have j : tn p w p2 * tn p2 v w = tn p2 v w * tn p w p2 := Int.mul_comm ..
                have q := sgnT2 (x := tn p2 v p) (y := 0 - tn p w p2) (z := 0 - tn p2 v w) (by rw [show tn p2 v p * (0 - tn p w p2) = 0 - tn p w p2 * tn p2 v p by grind]; omega) (by rw [show tn p2 v p * (0 - tn p2 v w) = 0 - tn p2 v p * tn p2 v w by grind]; omega)
                unfold wC
                rw [k, show tn p2 w v = 0 - tn p2 v w by unfold tn turnI; grind]
                exact q
              rcases cone hB hC with i | i
              · exact out_least (by rw [k]; omega) (lv p2 ma) (lv w hw) (lv p mb) i
              · exact (sm.ok x2 y1).sym.swp.sym.2.2.2.2 i
            · have z0 : tn p2 v w = 0 := by
                rcases Int.mul_eq_zero.mp u with y | y
                · exact absurd y hT
                · exact y
              have o : on w v p2 = true := on_iff.mpr ⟨by rw [show tn v p2 w = 0 - tn p2 v w from tn_flip ..]; omega, lt_le (lv w hw), lt_le lwa⟩
              rw [on_box (lv p2 ma), ← box_swap] at o
              rcases sm.vert y1 x2 (.inr rfl) o with y | y
              · exact wa y
              · exact nwv y
            · rcases cone wb0 u with i | i
              · exact free w hw wa wb i
              · exact ((sm.ok y2 x1).swp).2.2.2.2 i
          · rcases Int.mul_eq_zero.mp z with y | y
            · exact absurd y hT1
            · exact absurd y hT
          · exact z
      · obtain ⟨q, hq, ⟨qa, qb, iq⟩, mx⟩ := max_of (fun x => x ≠ a' ∧ x ≠ b' ∧ In3 a' w b' x) (wB a' w b') (t ++ s) (by
          apply Classical.byContradiction
          intro z
          exact C fun x hx xa xb i => z ⟨x, hx, xa, xb, i⟩)
        have qw : q ≠ w := fun z => nwR (z ▸ hq)
        obtain ⟨u1, u2, eu⟩ := List.append_of_mem hq
        have hu1 : u1 ≠ [] := fun z => by rw [eu, z] at R1; simp at R1; exact qb R1
        have hqe : ∃ e ∈ (v, b0) :: (a0, v) :: loopE l, EndOf q e := by
          obtain ⟨_, u, _, hu⟩ := ends_of hu1
          refine ⟨(u, q), toX _ ?_, .inr rfl⟩
          rw [eu, path_app u1 (q :: u2) u q hu rfl]
          simp
        have K := cut2 sm y1 y2 hT1 hqe qw iq (fun e he x hx i xw => by
          rcases ends e he x hx with y | y | y
          · subst y; exact absurd i outV
          · exact absurd y xw
          · by_cases xa : x = a'
            · subst xa; rw [wB_a]; exact iq.2.1
            · by_cases xb : x = b'
              · subst xb; rw [wB_b]; exact iq.2.1
              · exact mx x y ⟨xa, xb, i⟩)
        have K2 : ∀ e ∈ (v, b0) :: (a0, v) :: loopE l, OK2 q w e.1 e.2 := fun e he => (K e he).swp
        rcases List.mem_append.mp hq with qt | qs
        · obtain ⟨t1, t2, et⟩ := List.append_of_mem qt
          have ht1 : t1 ≠ [] := fun z => by rw [et, z] at hb'; simp at hb'; exact qb hb'
          have c2 : (q :: t2).getLast? = some a0 := by
            rw [et, List.getLast?_append] at ha0
            obtain ⟨_, u, _, hu⟩ := ends_of (l := q :: t2) (by simp)
            rw [hu] at ha0 ⊢
            simpa using ha0
          have P := path_cut (t := t2 ++ s) (q := q) ht1
          have eR : t ++ s = t1 ++ q :: (t2 ++ s) := by rw [et]; simp
          have d2 : (q :: (t2 ++ s)).getLast? = some a' := by
            rw [show q :: (t2 ++ s) = (q :: t2) ++ s from rfl, List.getLast?_append, ha']; rfl
          have L2 := loop_cons (v := w) (l := q :: (t2 ++ s)) rfl d2
          have lt : t.length = t1.length + t2.length + 1 := by rw [et]; simp; omega
          have p1 := List.length_pos_iff.mpr ht1
          have sub2 : ∀ x ∈ q :: (t2 ++ s), x ∈ t ++ s := fun x hx => by rw [eR]; exact List.mem_append_right _ hx
          have nd2 : (q :: (t2 ++ s)).Nodup := by
            rw [eR] at ndR
            exact (List.nodup_append.mp ndR).2.1
          have ndw2 : (w :: q :: (t2 ++ s)).Nodup := List.nodup_cons.mpr ⟨fun z => nwR (sub2 w z), nd2⟩
          have g := HS (q :: (t2 ++ s)) w q a' (by simp; omega) (by simp; omega) rfl d2 ndw2 ((sm.cons K).sub fun e he => by
            rw [L2] at he
            simp only [List.mem_cons, List.mem_append, List.not_mem_nil, or_false] at he
            rcases he with h | h | h
            · rw [h]; simp
            · exact List.mem_cons_of_mem _ (toX e (by rw [eR, P]; exact List.mem_append_right _ h))
            · rw [h]; exact List.mem_cons_of_mem _ y1) (fun x hx => lR x (sub2 x hx))
          have g1 : 0 < su (loopE (w :: q :: (t2 ++ s))) * tn a' w b' := sgnT g iq.2.2 hT1
          obtain ⟨rot2, mem2⟩ := loop_rot (s := s) (t := w :: q :: t2) hs (by simp)
          rw [show w :: q :: t2 ++ s = w :: q :: (t2 ++ s) from rfl] at rot2 mem2
          have h1 : (s ++ w :: q :: t2).head? = some b0 := by
            cases s with
            | nil => exact absurd rfl hs
            | cons y r => simpa using hb0
          have h2 : (s ++ w :: q :: t2).getLast? = some a0 := by rw [List.getLast?_append, List.getLast?_cons_cons, c2]; rfl
          have sub : ∀ x ∈ s ++ w :: q :: t2, x ∈ l := fun x hx => (inR x).mpr (by
            simp only [List.mem_append, List.mem_cons] at hx
            rcases hx with h | h | h | h
            · exact .inr (by simp [h])
            · exact .inl h
            · exact .inr (sub2 x (by simp [h]))
            · exact .inr (sub2 x (by simp [h])))
          have g2 := HT (s ++ w :: q :: t2) v b0 a0 (by simp; omega) (by simp; omega) h1 h2 (by
            have := (List.perm_append_comm (l₁ := w :: q :: t2) (l₂ := s)).nodup_iff.mp (by rw [show w :: q :: t2 ++ s = w :: q :: (t2 ++ s) from rfl]; exact ndw2)
            exact this) ((sm.cons K).sub fun e he => by
            rcases List.mem_cons.mp he with h | he
            · rw [h]; simp
            · rcases List.mem_cons.mp he with h | he
              · rw [h]; simp
              · have := (mem2 e).mp he
                rw [L2] at this
                simp only [List.mem_cons, List.mem_append, List.not_mem_nil, or_false] at this
                rcases this with h | h | h
                · rw [h]; simp
                · exact List.mem_cons_of_mem _ (toX e (by rw [eR, P]; exact List.mem_append_right _ h))
                · rw [h]; exact List.mem_cons_of_mem _ y1) (fun x hx => lv x (sub x hx)) hT (fun x hx => free x (sub x hx))
          rw [rot2] at g2
          exact sgnT2 g1 g2
        · obtain ⟨s1, s2, es⟩ := List.append_of_mem qs
          have hs2 : s2 ≠ [] := fun z => by rw [es, z] at ha'; simp at ha'; exact qa ha'
          have c1 : (s1 ++ [q]).head? = some b0 := by
            rw [es] at hb0
            cases s1 with
            | nil => simpa using hb0
            | cons y r => simpa using hb0
          have hts : t ++ s1 ≠ [] := by simp [ht]
          have P := path_cut (t := s2) (q := q) hts
          have eR : t ++ s = (t ++ s1) ++ q :: s2 := by rw [es]; simp
          have eT : (t ++ s1) ++ [q] = t ++ (s1 ++ [q]) := by simp
          rw [eT] at P
          have d1 : (t ++ (s1 ++ [q])).head? = some b' := by
            cases t with
            | nil => exact absurd rfl ht
            | cons y r => simpa using hb'
          have d2 : (t ++ (s1 ++ [q])).getLast? = some q := by rw [← eT]; simp
          have L2 := loop_cons (v := w) d1 d2
          have lt : s.length = s1.length + s2.length + 1 := by rw [es]; simp; omega
          have p1 := List.length_pos_iff.mpr hs2
          have sub2 : ∀ x ∈ t ++ (s1 ++ [q]), x ∈ t ++ s := fun x hx => by
            rw [eR, show t ++ s1 ++ q :: s2 = (t ++ (s1 ++ [q])) ++ s2 by simp]; exact List.mem_append_left _ hx
          have nd2 : (t ++ (s1 ++ [q])).Nodup := by
            rw [eR, show t ++ s1 ++ q :: s2 = (t ++ (s1 ++ [q])) ++ s2 by simp] at ndR
            exact (List.nodup_append.mp ndR).1
          have ndw2 : (w :: (t ++ (s1 ++ [q]))).Nodup := List.nodup_cons.mpr ⟨fun z => nwR (sub2 w z), nd2⟩
          have g := HS (t ++ (s1 ++ [q])) w b' q (by simp; omega) (by simp; omega) d1 d2 ndw2 ((sm.cons K2).sub fun e he => by
            rw [L2] at he
            simp only [List.mem_cons, List.mem_append, List.not_mem_nil, or_false] at he
            rcases he with h | h | h
            · rw [h]; exact List.mem_cons_of_mem _ y2
            · exact List.mem_cons_of_mem _ (toX e (by rw [eR, P]; exact List.mem_append_left _ h))
            · rw [h]; simp) (fun x hx => lR x (sub2 x hx))
          have g1 : 0 < su (loopE (w :: (t ++ (s1 ++ [q])))) * tn a' w b' := sgnT g (by have := iq.1; unfold wA at this; rw [tn_cyc q w b'] at this; exact this) hT1
          obtain ⟨rot2, mem2⟩ := loop_rot (s := s1 ++ [q]) (t := w :: t) (by simp) (by simp)
          rw [show w :: t ++ (s1 ++ [q]) = w :: (t ++ (s1 ++ [q])) from rfl] at rot2 mem2
          have h1 : (s1 ++ [q] ++ w :: t).head? = some b0 := by
            rw [List.head?_append, c1]; rfl
          have h2 : (s1 ++ [q] ++ w :: t).getLast? = some a0 := by
            rw [List.getLast?_append, show (w :: t).getLast? = some a0 by
              cases t with
              | nil => exact absurd rfl ht
              | cons y r => rw [List.getLast?_cons_cons]; exact ha0]; rfl
          have sub : ∀ x ∈ s1 ++ [q] ++ w :: t, x ∈ l := fun x hx => (inR x).mpr (by
            rcases List.mem_append.mp hx with h | h
            · exact .inr (sub2 x (List.mem_append_right _ h))
            · rcases List.mem_cons.mp h with h | h
              · exact .inl h
              · exact .inr (List.mem_append_left _ h))
          have g2 := HT (s1 ++ [q] ++ w :: t) v b0 a0 (by simp; omega) (by simp; omega) h1 h2 (by
            have := (List.perm_append_comm (l₁ := w :: t) (l₂ := s1 ++ [q])).nodup_iff.mp (by rw [show w :: t ++ (s1 ++ [q]) = w :: (t ++ (s1 ++ [q])) from rfl]; exact ndw2)
            exact this) ((sm.cons K2).sub fun e he => by
            rcases List.mem_cons.mp he with h | he
            · rw [h]; simp
            · rcases List.mem_cons.mp he with h | he
              · rw [h]; simp
              · have := (mem2 e).mp he
                rw [L2] at this
                simp only [List.mem_cons, List.mem_append, List.not_mem_nil, or_false] at this
                rcases this with h | h | h
                · rw [h]; exact List.mem_cons_of_mem _ y2
                · exact List.mem_cons_of_mem _ (toX e (by rw [eR, P]; exact List.mem_append_left _ h))
                · rw [h]; simp) (fun x hx => lv x (sub x hx)) hT (fun x hx => free x (sub x hx))
          rw [rot2] at g2
          exact sgnT2 g1 g2
theorem area_all : ∀ n : Nat, AreaS n ∧ AreaT n
  | 0 => ⟨fun l v b a h h2 => by omega, fun l v b a h h2 => by omega⟩
  | n + 1 => by
    obtain ⟨S, T⟩ := area_all n
    have T1 := stepT S T
    exact ⟨stepS S T1, T1⟩
end My
namespace My
open PySem L2
/-! ## a row that goes around simply has an area -/
theorem su_along : ∀ zs : List Zp, su (path (zs.map fun z => z.2)) = along zs
  | [] => rfl
  | [_] => rfl
  | u :: w :: r => by
    rw [along_cons2]
    show su ((u.2, w.2) :: path ((w :: r).map fun z => z.2)) = _
    rw [su_cons, su_along (w :: r)]
    rfl
theorem su_around {zs : List Zp} (h : zs ≠ []) : su (loopE (zs.map fun z => z.2)) = around zs := by
  obtain ⟨u, l, hu, hl⟩ : ∃ u l, zs.head? = some u ∧ zs.getLast? = some l := by
    cases zs with
    | nil => exact absurd rfl h
    | cons x r => exact ⟨x, _, rfl, List.getLast?_eq_some_getLast (by simp)⟩
  rw [loop_eq (b := u.2) (a := l.2) (by rw [List.head?_map, hu]; rfl) (by rw [List.getLast?_map, hl]; rfl), su_app, su_one, su_along]
  unfold around
  rw [hl]
  cases zs with
  | nil => exact absurd rfl h
  | cons x r =>
    simp at hu
    subst hu
    show along (x :: r) + cr2 (l.2, x.2) = along (l :: x :: r)
    rw [along_cons2]
    have : cr2 (l.2, x.2) = cr l x := rfl
    omega
theorem path_get : ∀ (l : List Pt) (e : Eg), e ∈ path l → ∃ i : Nat, l[i]? = some e.1 ∧ l[i + 1]? = some e.2
  | [], _, h => by cases h
  | [_], _, h => by cases h
  | x :: y :: r, e, h => by
    rcases List.mem_cons.mp h with rfl | h
    · exact ⟨0, rfl, rfl⟩
    · obtain ⟨i, h1, h2⟩ := path_get (y :: r) e h
      exact ⟨i + 1, by simpa using h1, by simpa using h2⟩
theorem loop_get {zs : List Zp} {e : Eg} (h : e ∈ loopE (zs.map fun z => z.2)) : ∃ i : Nat, i < zs.length ∧ e = (pt zs i, pt zs (i + 1)) := by
  unfold loopE at h
  cases zs with
  | nil => cases h
  | cons u r =>
    obtain ⟨i, h1, h2⟩ := path_get _ _ h
    have at_ : ∀ (j : Nat) (x : Pt), (List.map (fun z : Zp => z.2) (u :: r) ++ [u.2])[j]? = some x → j ≤ (u :: r).length ∧ pt (u :: r) j = x := fun j x hx => by
      rcases Nat.lt_or_ge j (u :: r).length with g | g
      · rw [List.getElem?_append_left (by simpa using g), List.getElem?_map] at hx
        obtain ⟨z, g1, rfl⟩ := Option.map_eq_some_iff.mp hx
        exact ⟨by omega, pt_at g1⟩
      · rw [List.getElem?_append_right (by simpa using g)] at hx
        have l : j - (u :: r).length < 1 := by
          have := (List.getElem?_eq_some_iff.mp hx).1
          simpa using this
        have e : j = 0 + (u :: r).length := by omega
        refine ⟨by omega, ?_⟩
        rw [e, pt_add, pt_at (z := u) rfl]
        rw [show j - (List.map (fun z : Zp => z.2) (u :: r)).length = 0 by simp at e ⊢; omega] at hx
        simpa using hx
    have l2 := (at_ _ _ h2).1
    refine ⟨i, by omega, ?_⟩
    rw [(at_ _ _ h1).2, (at_ _ _ h2).2]
theorem Apart2.ok {a b c d : Pt} (h : Apart2 a b c d) : OK2 a b c d := ⟨fun z => by rw [h.1] at z; exact Bool.noConfusion z, fun z => by rw [h.2.1] at z; exact Bool.noConfusion z, fun z => by rw [h.2.2.1] at z; exact Bool.noConfusion z, fun z => by rw [h.2.2.2.1] at z; exact Bool.noConfusion z, h.2.2.2.2⟩
theorem Adj.ok {p q r : Pt} (h : Adj p q r) : OK2 p q q r := by
  refine ⟨fun z => by rw [h.1] at z; exact Bool.noConfusion z, fun _ => .inl rfl, fun _ => .inr rfl, fun z => by rw [h.2] at z; exact Bool.noConfusion z, fun z => ?_⟩
  have := z.1
  rw [tn_b, Int.zero_mul] at this
  omega
theorem Simp.smp {zs : List Zp} (S : Simp zs) : Smp (loopE (zs.map fun z => z.2)) := by
  have key : ∀ i j, i < j → j < zs.length → OK2 (pt zs i) (pt zs (i + 1)) (pt zs j) (pt zs (j + 1)) := fun i j hij hj => by
    by_cases c : j = i + 1
    · subst c; exact (S.adj i (by omega)).ok
    · by_cases d : i = 0 ∧ j + 1 = zs.length
      · obtain ⟨rfl, d⟩ := d
        have a := S.adj j hj
        have e1 : pt zs (j + 1) = pt zs 0 := by rw [d]; have := pt_add (zs := zs) 0; rw [Nat.zero_add] at this; exact this
        have e2 : pt zs (j + 2) = pt zs 1 := by rw [show j + 2 = 1 + zs.length by omega]; exact pt_add 1
        rw [e1, e2] at a
        rw [e1]
        exact a.ok.sym
      · exact (S.apart i j (by omega) hj d).ok
  intro e he f hf n
  obtain ⟨i, hi, rfl⟩ := loop_get he
  obtain ⟨j, hj, rfl⟩ := loop_get hf
  rcases Nat.lt_trichotomy i j with h | h | h
  · exact key i j h hj
  · subst h; exact absurd rfl n
  · exact (key j i h hi).sym
theorem Simp.inj {zs : List Zp} (S : Simp zs) {i j : Nat} (hij : i < j) (hj : j < zs.length) : pt zs i ≠ pt zs j := by
  intro z
  by_cases c : j = i + 1
  · subst c; exact S.ne i (by omega) z
  · by_cases d : i = 0 ∧ j + 1 = zs.length
    · obtain ⟨rfl, d⟩ := d
      refine S.ne j hj ?_
      rw [← z, d]
      have := pt_add (zs := zs) 0
      rw [Nat.zero_add] at this
      exact this.symm
    · have := (S.apart i j (by omega) hj d).1
      rw [z, box_l (S.ne j hj)] at this
      cases this
theorem Simp.nodup {zs : List Zp} (S : Simp zs) : (zs.map fun z => z.2).Nodup := by
  rw [List.nodup_iff_pairwise_ne, List.pairwise_iff_getElem]
  intro i j hi hj hij
  have li : i < zs.length := by simpa using hi
  have lj : j < zs.length := by simpa using hj
  have := S.inj hij lj
  rw [pt_at (List.getElem?_eq_getElem li), pt_at (List.getElem?_eq_getElem lj)] at this
  simpa using this
/-- the sign of what goes around simply: that of the turn at its least point -/
theorem Simp.area {zs : List Zp} (S : Simp zs) (h3 : 3 ≤ zs.length) : ∃ (s t : List Pt) (v b a : Pt), (zs.map fun z => z.2) = s ++ v :: t ∧ (∀ x ∈ t ++ s, lt v x = true) ∧ (t ++ s).head? = some b ∧ (t ++ s).getLast? = some a ∧ 0 < around zs * tn a v b := by
  have nd := S.nodup
  have sm := S.smp
  rw [← su_around (zs := zs) (fun z => by rw [z] at h3; simp at h3)]
  have len : (zs.map fun z => z.2).length = zs.length := List.length_map _
  generalize (zs.map fun z => z.2) = l at nd sm len ⊢
  have ln : l ≠ [] := fun z => by rw [z] at len; simp at len; omega
  obtain ⟨v, hv, least⟩ := least_of l ln
  obtain ⟨s, t, e⟩ := List.append_of_mem hv
  have perm : ∀ x, x ∈ l ↔ x = v ∨ x ∈ t ++ s := fun x => by
    rw [e]; simp only [List.mem_append, List.mem_cons]
    constructor <;> (rintro (h | h | h) <;> simp [h])
  have ndW : (v :: (t ++ s)).Nodup := by
    have : (s ++ v :: t).Nodup := e ▸ nd
    rw [show v :: (t ++ s) = (v :: t) ++ s from rfl]
    exact (List.perm_append_comm).nodup_iff.mp this
  have lv : ∀ x ∈ t ++ s, lt v x = true := fun x hx => by
    cases q : lt v x with
    | true => rfl
    | false =>
      have := lt_tri (least x ((perm x).mpr (.inr hx))) q
      subst this
      exact absurd hx (List.nodup_cons.mp ndW).1
  have le : l.length = s.length + t.length + 1 := by rw [e]; simp; omega
  have l2 : 2 ≤ (t ++ s).length := by simp; omega
  obtain ⟨b, a, hb, ha⟩ := ends_of (l := t ++ s) (fun z => by rw [z] at l2; simp at l2)
  refine ⟨s, t, v, b, a, e, lv, hb, ha, ?_⟩
  by_cases hs : s = []
  · subst hs
    rw [List.append_nil] at *
    rw [e, List.nil_append] at sm ⊢
    exact (area_all _).1 t v b a (Nat.le_refl _) l2 hb ha ndW sm lv
  · obtain ⟨rot, mem⟩ := loop_rot (s := s) (t := v :: t) hs (by simp)
    rw [← e] at rot mem
    rw [rot]
    exact (area_all _).1 (t ++ s) v b a (Nat.le_refl _) l2 hb ha ndW (sm.sub fun x hx => (mem x).mpr hx) lv
theorem Simp.nz {zs : List Zp} (S : Simp zs) (h3 : 3 ≤ zs.length) : around zs ≠ 0 := by
  obtain ⟨_, _, _, _, _, _, _, _, _, h⟩ := S.area h3
  intro z
  rw [z, Int.zero_mul] at h
  omega
end My
namespace My
open PySem L2
/-! ## the parity of crossings: signs -/
theorem I1 (p q u w : Pt) : tn p q u * (w.2 - u.2) = tn u w p * (u.2 - q.2) + tn u w q * (p.2 - u.2) := by unfold tn turnI; grind
theorem I2 (p q u w : Pt) : tn p q w * (w.2 - u.2) = tn u w p * (w.2 - q.2) + tn u w q * (p.2 - w.2) := by unfold tn turnI; grind
theorem I3 (p q u w : Pt) : tn u w p * (q.2 - p.2) = tn p q u * (p.2 - w.2) + tn p q w * (u.2 - p.2) := by unfold tn turnI; grind
theorem I4 (p q u w : Pt) : tn u w q * (q.2 - p.2) = tn p q u * (q.2 - w.2) + tn p q w * (u.2 - q.2) := by unfold tn turnI; grind
theorem mpp {x y : Int} (h : 0 < x) (g : 0 < y) : 0 < x * y := Int.mul_pos h g
theorem nz_cases {x : Int} (h : x ≠ 0) : x < 0 ∨ 0 < x := by omega
end My
namespace My
open PySem L2
/-! ## the parity of crossings: sums around -/
def xsum (g : Eg → Bool) : List Eg → Bool
  | [] => false
  | e :: r => g e ^^ xsum g r
theorem xsum_app (g : Eg → Bool) : ∀ E F : List Eg, xsum g (E ++ F) = (xsum g E ^^ xsum g F)
  | [], F => by show _ = (false ^^ _); rw [Bool.false_xor]; rfl
  | e :: r, F => by
    show (g e ^^ xsum g (r ++ F)) = ((g e ^^ xsum g r) ^^ xsum g F)
    rw [xsum_app g r F, Bool.xor_assoc]
theorem xsum_xor (g h : Eg → Bool) : ∀ E : List Eg, xsum (fun e => g e ^^ h e) E = (xsum g E ^^ xsum h E)
  | [] => rfl
  | e :: r => by
    show ((g e ^^ h e) ^^ xsum _ r) = ((g e ^^ xsum g r) ^^ (h e ^^ xsum h r))
    rw [xsum_xor g h r]
    cases g e <;> cases h e <;> cases xsum g r <;> cases xsum h r <;> rfl
theorem xsum_congr {g h : Eg → Bool} : ∀ {E : List Eg}, (∀ e ∈ E, g e = h e) → xsum g E = xsum h E
  | [], _ => rfl
  | e :: r, k => by
    show (g e ^^ xsum g r) = (h e ^^ xsum h r)
    rw [k e (by simp), xsum_congr fun x hx => k x (List.mem_cons_of_mem _ hx)]
theorem xsum_path (f : Pt → Bool) : ∀ (l : List Pt) (b a : Pt), l.head? = some b → l.getLast? = some a → xsum (fun e => f e.1 ^^ f e.2) (path l) = (f b ^^ f a)
  | [], _, _, h, _ => by simp at h
  | [x], b, a, h, g => by
    simp at h g
    subst h; subst g
    show false = _
    rw [Bool.xor_self]
  | x :: y :: r, b, a, h, g => by
    simp at h
    subst h
    rw [List.getLast?_cons_cons] at g
    show ((f x ^^ f y) ^^ xsum _ (path (y :: r))) = _
    rw [xsum_path f (y :: r) y a rfl g]
    cases f x <;> cases f y <;> cases f a <;> rfl
theorem xsum_loop (f : Pt → Bool) (l : List Pt) : xsum (fun e => f e.1 ^^ f e.2) (loopE l) = false := by
  by_cases h : l = []
  · subst h; rfl
  · obtain ⟨b, a, hb, ha⟩ := ends_of h
    rw [loop_eq hb ha, xsum_app, xsum_path f l b a hb ha]
    show ((f b ^^ f a) ^^ ((f a ^^ f b) ^^ false)) = false
    cases f a <;> cases f b <;> rfl
theorem xsum_count (g : Eg → Bool) : ∀ E : List Eg, xsum g E = decide (E.countP g % 2 = 1)
  | [] => rfl
  | e :: r => by
    show (g e ^^ xsum g r) = _
    rw [xsum_count g r, List.countP_cons]
    cases h : g e
    · simp
    · simp only [if_true, Bool.true_xor]
      rw [← decide_not]
      exact decide_eq_decide.mpr (by omega)
end My
namespace My
open PySem L2
/-! ## rays in four directions: quarters of a turn -/
def quart (p : Pt) : Pt := (0 - p.2, p.1)
theorem tn_quart (a b c : Pt) : tn (quart a) (quart b) (quart c) = tn a b c := by unfold tn turnI quart; grind
theorem tn_at (u w p : Pt) : tn u w p = (u.1 - p.1) * (w.2 - p.2) - (u.2 - p.2) * (w.1 - p.1) := by unfold tn turnI; grind
theorem east_r {p u w : Pt} (h1 : w.1 ≤ p.1) (h2 : p.1 < u.1) : eastB (quart p) (quart u) (quart w) = decide (tn u w p < 0) := by
  rw [east_down (show (quart w).2 ≤ (quart p).2 from h1) (show (quart p).2 < (quart u).2 from h2), tn_quart]
theorem east_l {p u w : Pt} (h1 : u.1 ≤ p.1) (h2 : p.1 < w.1) : eastB (quart p) (quart u) (quart w) = decide (0 < tn u w p) := by
  rw [east_up (show (quart u).2 ≤ (quart p).2 from h1) (show (quart p).2 < (quart w).2 from h2), tn_quart]
theorem east_rn {p u w : Pt} (h : (u.1 ≤ p.1 ∧ w.1 ≤ p.1) ∨ (p.1 < u.1 ∧ p.1 < w.1)) : eastB (quart p) (quart u) (quart w) = false := east_no h
/-- right of p, and not above -/
def seB (p u : Pt) : Bool := decide (p.1 < u.1) && decide (u.2 ≤ p.2)
theorem on_opp {p u w : Pt} (h : tn u w p = 0) (x : (u.1 ≤ p.1 ∧ p.1 ≤ w.1) ∨ (w.1 ≤ p.1 ∧ p.1 ≤ u.1)) (y : (u.2 ≤ p.2 ∧ p.2 ≤ w.2) ∨ (w.2 ≤ p.2 ∧ p.2 ≤ u.2)) : box p u w = true := box_iff.mpr ⟨h, x, y⟩
/-- the rays to the east and to the south, by a colour of the corners -/
theorem qua {p u w : Pt} (n : box p u w = false) : (eastB p u w ^^ eastB (quart p) (quart u) (quart w)) = (seB p u ^^ seB p w) := by
  have T := tn_at u w p
  have no : ∀ {q : Prop}, box p u w = true → q := fun z => by rw [n] at z; cases z
  have se : ∀ x : Pt, p.1 < x.1 → x.2 ≤ p.2 → seB p x = true := fun x a b => by unfold seB; simp [a, b]
  have ns : ∀ x : Pt, x.1 ≤ p.1 ∨ p.2 < x.2 → seB p x = false := fun x a => by
    unfold seB
    rcases a with a | a
    · rw [decide_eq_false (show ¬ p.1 < x.1 by omega)]; rfl
    · rw [decide_eq_false (show ¬ x.2 ≤ p.2 by omega), Bool.and_false]
  by_cases a : p.1 < u.1 <;> by_cases b : u.2 ≤ p.2 <;> by_cases c : p.1 < w.1 <;> by_cases d : w.2 ≤ p.2
  · rw [east_no (p := p) (.inl ⟨b, d⟩), east_rn (.inr ⟨a, c⟩), se u a b, se w c d]; rfl
  · have h1 := prod_np (x := w.1 - p.1) (y := u.2 - p.2) (by omega) (by omega)
    have h2 := mpp (show 0 < u.1 - p.1 by omega) (show 0 < w.2 - p.2 by omega)
    rw [Int.mul_comm (w.1 - p.1)] at h1
    rw [east_up b (by omega), east_rn (.inr ⟨a, c⟩), se u a b, ns w (by omega), decide_eq_true (by omega)]
  · have h1 := prod_np (x := u.1 - p.1) (y := w.2 - p.2) (by omega) (by omega)
    have h2 := prod_nn' (x := u.2 - p.2) (y := w.1 - p.1) (by omega) (by omega)
    have t0 : tn u w p ≠ 0 := fun z => by
      have e1 : (u.1 - p.1) * (w.2 - p.2) = 0 := by omega
      have wy : w.2 - p.2 = 0 := by
        rcases Int.mul_eq_zero.mp e1 with y | y <;> omega
      have e2 : (u.2 - p.2) * (w.1 - p.1) = 0 := by omega
      rcases Int.mul_eq_zero.mp e2 with y | y
      · exact no (on_opp z (by omega) (by omega))
      · exact no (on_opp z (by omega) (by omega))
    rw [east_no (p := p) (.inl ⟨b, d⟩), east_r (by omega) a, se u a b, ns w (by omega), decide_eq_true (by omega)]; rfl
  · have t0 : tn u w p ≠ 0 := fun z => no (on_opp z (by omega) (by omega))
    rw [east_up b (by omega), east_r (by omega) a, se u a b, ns w (by omega)]
    rcases nz_cases t0 with t | t
    · rw [decide_eq_false (show ¬ 0 < tn u w p by omega), decide_eq_true t]; rfl
    · rw [decide_eq_true t, decide_eq_false (show ¬ tn u w p < 0 by omega)]
  · have h1 := prod_pn (x := w.2 - p.2) (y := u.1 - p.1) (by omega) (by omega)
    have h2 := mpp (show 0 < u.2 - p.2 by omega) (show 0 < w.1 - p.1 by omega)
    rw [Int.mul_comm (w.2 - p.2)] at h1
    rw [east_down d (by omega), east_rn (.inr ⟨a, c⟩), ns u (by omega), se w c d, decide_eq_true (by omega)]; rfl
  · rw [east_no (p := p) (.inr ⟨by omega, by omega⟩), east_rn (.inr ⟨a, c⟩), ns u (by omega), ns w (by omega)]
  · rw [east_down d (by omega), east_r (by omega) a, ns u (by omega), ns w (by omega), Bool.xor_self]; rfl
  · have h1 := mpp (show 0 < u.1 - p.1 by omega) (show 0 < w.2 - p.2 by omega)
    have h2 := prod_np (x := u.2 - p.2) (y := w.1 - p.1) (by omega) (by omega)
    rw [east_no (p := p) (.inr ⟨by omega, by omega⟩), east_r (by omega) a, ns u (by omega), ns w (by omega), decide_eq_false (by omega)]
  · have h1 := prod_nn' (x := u.1 - p.1) (y := w.2 - p.2) (by omega) (by omega)
    have h2 := prod_pn (x := u.2 - p.2) (y := w.1 - p.1) (by omega) (by omega)
    have t0 : tn u w p ≠ 0 := fun z => by
      have e2 : (u.2 - p.2) * (w.1 - p.1) = 0 := by omega
      have uy : u.2 - p.2 = 0 := by
        rcases Int.mul_eq_zero.mp e2 with y | y <;> omega
      have e1 : (u.1 - p.1) * (w.2 - p.2) = 0 := by omega
      rcases Int.mul_eq_zero.mp e1 with y | y
      · exact no (on_opp z (by omega) (by omega))
      · exact no (on_opp z (by omega) (by omega))
    rw [east_no (p := p) (.inl ⟨b, d⟩), east_l (by omega) c, ns u (by omega), se w c d, decide_eq_true (by omega)]
  · rw [east_up b (by omega), east_l (by omega) c, ns u (by omega), ns w (by omega), Bool.xor_self]; rfl
  · rw [east_no (p := p) (.inl ⟨b, d⟩), east_rn (.inl ⟨by omega, by omega⟩), ns u (by omega), ns w (by omega)]
  · have h1 := prod_pn (x := u.1 - p.1) (y := w.2 - p.2) (by omega) (by omega)
    have h2 := prod_nn' (x := u.2 - p.2) (y := w.1 - p.1) (by omega) (by omega)
    rw [east_up b (by omega), east_rn (.inl ⟨by omega, by omega⟩), ns u (by omega), ns w (by omega), decide_eq_false (by omega)]
  · have t0 : tn u w p ≠ 0 := fun z => no (on_opp z (by omega) (by omega))
    rw [east_down d (by omega), east_l (by omega) c, ns u (by omega), se w c d]
    rcases nz_cases t0 with t | t
    · rw [decide_eq_true t, decide_eq_false (show ¬ 0 < tn u w p by omega)]; rfl
    · rw [decide_eq_false (show ¬ tn u w p < 0 by omega), decide_eq_true t]
  · have h1 := prod_pn (x := u.1 - p.1) (y := w.2 - p.2) (by omega) (by omega)
    have h2 := mpp (show 0 < u.2 - p.2 by omega) (show 0 < w.1 - p.1 by omega)
    rw [east_no (p := p) (.inr ⟨by omega, by omega⟩), east_l (by omega) c, ns u (by omega), ns w (by omega), decide_eq_false (by omega)]
  · have h1 := prod_nn' (x := u.1 - p.1) (y := w.2 - p.2) (by omega) (by omega)
    have h2 := prod_np (x := u.2 - p.2) (y := w.1 - p.1) (by omega) (by omega)
    rw [east_down d (by omega), east_rn (.inl ⟨by omega, by omega⟩), ns u (by omega), ns w (by omega), decide_eq_false (by omega)]
  · rw [east_no (p := p) (.inr ⟨by omega, by omega⟩), east_rn (.inl ⟨by omega, by omega⟩), ns u (by omega), ns w (by omega)]
def map2 (f : Pt → Pt) (e : Eg) : Eg := (f e.1, f e.2)
theorem path_map (f : Pt → Pt) : ∀ l : List Pt, path (l.map f) = (path l).map (map2 f)
  | [] => rfl
  | [_] => rfl
  | x :: y :: r => by
    show (f x, f y) :: path ((y :: r).map f) = _
    rw [path_map f (y :: r)]
    rfl
theorem loop_map (f : Pt → Pt) (l : List Pt) : loopE (l.map f) = (loopE l).map (map2 f) := by
  cases l with
  | nil => rfl
  | cons x r =>
    show path ((x :: r).map f ++ [f x]) = (path ((x :: r) ++ [x])).map _
    rw [← path_map, List.map_append]
    rfl
theorem xsum_map (g : Eg → Bool) (f : Eg → Eg) : ∀ E : List Eg, xsum g (E.map f) = xsum (fun e => g (f e)) E
  | [] => rfl
  | e :: r => by
    show (g (f e) ^^ xsum g (r.map f)) = _
    rw [xsum_map g f r]
    rfl
/-- a quarter of a turn changes no parity -/
theorem qua_parity {p : Pt} {l : List Pt} (n : ∀ e ∈ loopE l, box p e.1 e.2 = false) : xsum (fun e => eastB (quart p) e.1 e.2) (loopE (l.map quart)) = xsum (fun e => eastB p e.1 e.2) (loopE l) := by
  rw [loop_map, xsum_map]
  have h : xsum (fun e => eastB p e.1 e.2 ^^ eastB (quart p) (map2 quart e).1 (map2 quart e).2) (loopE l) = false := by
    exact (xsum_congr (h := fun e => seB p e.1 ^^ seB p e.2) fun e he => qua (n e he)).trans (xsum_loop (seB p) l)
  rw [xsum_xor] at h
  show xsum (fun e => eastB (quart p) (map2 quart e).1 (map2 quart e).2) (loopE l) = _
  revert h
  generalize xsum (fun e => eastB p e.1 e.2) (loopE l) = x
  generalize xsum (fun e => eastB (quart p) (map2 quart e).1 (map2 quart e).2) (loopE l) = y
  cases x <;> cases y <;> simp
end My
namespace My
open PySem L2
/-! ## crossings and places -/
theorem path_at : ∀ (l : List Pt) (i : Nat), (path l)[i]? = (l[i + 1]?).bind fun y => (l[i]?).map fun x => (x, y)
  | [], i => by simp [path]
  | [x], i => by simp [path]
  | x :: y :: r, 0 => by simp [path]
  | x :: y :: r, i + 1 => by
    show (path (y :: r))[i]? = _
    rw [path_at (y :: r) i]
    simp
theorem loop_range (zs : List Zp) : loopE (zs.map fun z => z.2) = (List.range zs.length).map fun i => (pt zs i, pt zs (i + 1)) := by
  cases zs with
  | nil => rfl
  | cons u r =>
    unfold loopE
    have at_ : ∀ j, j ≤ (u :: r).length → (List.map (fun z : Zp => z.2) (u :: r) ++ [u.2])[j]? = some (pt (u :: r) j) := fun j hj => by
      rcases Nat.lt_or_ge j (u :: r).length with g | g
      · rw [List.getElem?_append_left (by simpa using g), List.getElem?_map, List.getElem?_eq_getElem g, pt_at (List.getElem?_eq_getElem g)]
        rfl
      · have e : j = 0 + (u :: r).length := by omega
        rw [List.getElem?_append_right (by simpa using g), e, pt_add, pt_at (z := u) rfl]
        simp
    refine List.ext_getElem? fun i => ?_
    show (path (List.map (fun z : Zp => z.2) (u :: r) ++ [u.2]))[i]? = _
    rw [path_at, List.getElem?_map]
    rcases Nat.lt_or_ge i (u :: r).length with g | g
    · rw [at_ (i + 1) (by omega), at_ i (by omega), List.getElem?_range g]
      rfl
    · rw [List.getElem?_eq_none (by simp at g ⊢; omega), List.getElem?_eq_none (l := List.range _) (by simpa using g)]
      rfl
theorem cntE_count (p : Pt) (zs : List Zp) : ∀ n : Nat, cntE p zs n = ((List.range n).map fun i => (pt zs i, pt zs (i + 1))).countP fun e => eastB p e.1 e.2
  | 0 => rfl
  | n + 1 => by
    rw [List.range_succ, List.map_append, List.countP_append, ← cntE_count p zs n]
    show _ = cntE p zs n + List.countP _ [(pt zs n, pt zs (n + 1))]
    rw [List.countP_singleton]
    rfl
end My
namespace My
open PySem L2
/-! ## rays in four directions, counted by the law -/
def quartN : Nat → Pt → Pt
  | 0, p => p
  | n + 1, p => quart (quartN n p)
theorem east_sym (p a b : Pt) : eastB p b a = eastB p a b := by
  unfold eastB
  rcases Int.lt_trichotomy a.2 b.2 with h | h | h
  · rw [if_neg (by omega), if_pos h]
  · rw [if_neg (by omega), if_neg (by omega)]
    by_cases q : a.2 ≤ p.2
    · rw [decide_eq_false (show ¬ p.2 < b.2 by omega), decide_eq_false (show ¬ p.2 < a.2 by omega), Bool.and_false, Bool.and_false, Bool.false_and, Bool.false_and]
    · rw [decide_eq_false q, decide_eq_false (show ¬ b.2 ≤ p.2 by omega)]; rfl
  · rw [if_pos h, if_neg (by omega)]
theorem box_quart (p a b : Pt) : box (quart p) (quart a) (quart b) = box p a b := by
  have T : tn (quart a) (quart b) (quart p) = tn a b p := tn_quart ..
  rw [Bool.eq_iff_iff, box_iff, box_iff, T]
  unfold quart
  dsimp only
  omega
/-- a pair of points at addresses -/
structure QAt (K : PySem.W.Frag) (H : Hp) (e : Addr × Zp × Zp) : Prop where
  g : SqT K H e.1 [.ref e.2.1.1, .ref e.2.2.1]
  a : SqT K H e.2.1.1 [.int e.2.1.2.1, .int e.2.1.2.2]
  b : SqT K H e.2.2.1 [.int e.2.2.2.1, .int e.2.2.2.2]
  oa : On e.2.1.2.1 e.2.1.2.2
  ob : On e.2.2.2.1 e.2.2.2.2
theorem QAt.same {K : PySem.W.Frag} {H H' : Hp} {e : Addr × Zp × Zp} (s : Same H H') (h : QAt K H e) : QAt K H' e := ⟨tSame s h.g, tSame s h.a, tSame s h.b, h.oa, h.ob⟩
theorem QAt.at {K : PySem.W.Frag} {H : Hp} {D : Addr} {o : HO} {e : Addr × Zp × Zp} (n : ∃ ys, H D = some (.lst ys)) (h : QAt K H e) : QAt K (upd H D o) e := ⟨tAt n h.g, tAt n h.a, tAt n h.b, h.oa, h.ob⟩
end My
namespace My
open PySem L2
/-! ## rows of points that are one row, begun elsewhere or backwards -/
abbrev crd (zs : List Zp) : List Pt := zs.map fun z => z.2
theorem eqv_all : ∀ zs ws : List Zp, PyData.eqvAll (ptsD zs) (ptsD ws) = decide (crd zs = crd ws)
  | [], [] => by simp [PyData.eqvAll]
  | [], w :: ws => by simp [PyData.eqvAll]
  | z :: zs, [] => by simp [PyData.eqvAll]
  | z :: zs, w :: ws => by
    show PyData.eqvAll (pD z.2.1 z.2.2 :: ptsD zs) (pD w.2.1 w.2.2 :: ptsD ws) = _
    rw [PyData.eqvAll, eqvP, eqv_all zs ws, ← Bool.decide_and]
    refine decide_eq_decide.mpr ⟨fun h => ?_, fun h => ?_⟩
    · show z.2 :: crd zs = w.2 :: crd ws
      rw [h.2, pt_eq h.1.1 h.1.2]
    · have h : z.2 :: crd zs = w.2 :: crd ws := h
      injection h with h1 h2
      exact ⟨by rw [h1]; exact ⟨rfl, rfl⟩, h2⟩
/-- a row of the points, begun elsewhere, or backwards -/
def RowOf (ps rs : List Zp) : Prop := (∃ t, rs = ps.drop t ++ ps.take t) ∨ ∃ t, rs = (ps.drop t ++ ps.take t).reverse
theorem RowOf.simp {ps rs : List Zp} (h : RowOf ps rs) (R : RingOk rs) : Simp ps := by
  rcases h with ⟨t, rfl⟩ | ⟨t, rfl⟩
  · have := Simp.turned _ _ R.simp
    rwa [List.take_append_drop] at this
  · have := R.simp.back R.l3
    rw [List.reverse_reverse] at this
    have := Simp.turned _ _ this
    rwa [List.take_append_drop] at this
theorem Made.ring {ps ws : List Zp} (m : Made ps ws) (l3 : 3 ≤ ps.length) (lm : ps.length ≤ 40) (S : Simp ps) : RingOk ws := ⟨by rw [m.len]; exact l3, by rw [m.len]; exact lm, m.simp l3 S, m.pos (S.nz l3), m.least⟩
end My
namespace My
open PySem L2
/-! ## chains that turn left -/
theorem int_or (a b : Int) : a < b ∨ b ≤ a := by omega
def cx2 (u v : Pt) : Int := u.1 * v.2 - u.2 * v.1
def fwd (u : Pt) : Prop := 0 < u.1 ∨ (u.1 = 0 ∧ 0 < u.2)
theorem crs3 (u v w : Pt) : v.1 * cx2 u w = w.1 * cx2 u v + u.1 * cx2 v w := by unfold cx2; grind
theorem pos_of_mul {a b : Int} (h : 0 < a) (g : 0 < a * b) : 0 < b := by
  rcases int_or 0 b with q | q
  · exact q
  · have := Int.mul_le_mul_of_nonneg_left q (Int.le_of_lt h)
    omega
theorem nonneg_of_mul {a b : Int} (h : 0 < a) (g : 0 ≤ a * b) : 0 ≤ b := by
  rcases int_or b 0 with q | q
  · have := Int.mul_neg_of_pos_of_neg h q
    omega
  · exact q
theorem fwd_nn {u : Pt} (h : fwd u) : 0 ≤ u.1 := by unfold fwd at h; omega
theorem turns2 {u v w : Pt} (hu : fwd u) (hv : fwd v) (hw : fwd w) (h1 : 0 ≤ cx2 u v) (h2 : 0 < cx2 v w) : 0 < cx2 u w := by
  have I := crs3 u v w
  have w0 := fwd_nn hw
  have a1 := Int.mul_nonneg w0 h1
  rcases hv with hv | ⟨hv, hv2⟩
  · refine pos_of_mul hv ?_
    rcases hu with hu | ⟨hu, hu2⟩
    · have := Int.mul_pos hu h2
      omega
    · exfalso
      have := Int.mul_pos hu2 hv
      unfold cx2 at h1
      rw [hu, Int.zero_mul] at h1
      omega
  · exfalso
    have := Int.mul_nonneg (Int.le_of_lt hv2) w0
    unfold cx2 at h2
    rw [hv, Int.zero_mul] at h2
    omega
theorem turns3 {u v w : Pt} (hu : fwd u) (hv : fwd v) (hw : fwd w) (h1 : 0 < cx2 u v) (h2 : 0 ≤ cx2 v w) : 0 < cx2 u w := by
  have I := crs3 u v w
  have w0 := fwd_nn hw
  have u0 := fwd_nn hu
  rcases hv with hv | ⟨hv, hv2⟩
  · refine pos_of_mul hv ?_
    have a2 := Int.mul_nonneg u0 h2
    rcases hw with hw | ⟨hw, hw2⟩
    · have := Int.mul_pos hw h1
      omega
    · have h3 : 0 < cx2 v w := by
        unfold cx2
        rw [hw, Int.mul_zero]
        have := Int.mul_pos hv hw2
        omega
      rcases hu with hu | ⟨hu, hu2⟩
      · have := Int.mul_pos hu h3
        rw [hw, Int.zero_mul] at I
        omega
      · exfalso
        have := Int.mul_pos hu2 hv
        unfold cx2 at h1
        rw [hu, Int.zero_mul] at h1
        omega
  · have e1 : cx2 u v = u.1 * v.2 := by unfold cx2; rw [hv, Int.mul_zero, Int.sub_zero]
    have e2 : cx2 v w = 0 - v.2 * w.1 := by unfold cx2; rw [hv, Int.zero_mul]
    have u1 : 0 < u.1 := by
      rcases int_or 0 u.1 with q | q
      · exact q
      · have : u.1 = 0 := by omega
        rw [e1, this, Int.zero_mul] at h1
        omega
    have w1 : w.1 = 0 := by
      rcases int_or 0 w.1 with q | q
      · have := Int.mul_pos hv2 q
        omega
      · omega
    have w2 : 0 < w.2 := by unfold fwd at hw; omega
    unfold cx2
    rw [w1, Int.mul_zero]
    have := Int.mul_pos u1 w2
    omega
theorem turns4 {u v w : Pt} (hu : fwd u) (hv : fwd v) (hw : fwd w) (h1 : 0 ≤ cx2 u v) (h2 : 0 ≤ cx2 v w) : 0 ≤ cx2 u w := by
  have I := crs3 u v w
  have w0 := fwd_nn hw
  have u0 := fwd_nn hu
  have a1 := Int.mul_nonneg w0 h1
  have a2 := Int.mul_nonneg u0 h2
  rcases hv with hv | ⟨hv, hv2⟩
  · exact nonneg_of_mul hv (by omega)
  · have e2 : cx2 v w = 0 - v.2 * w.1 := by unfold cx2; rw [hv, Int.zero_mul]
    have w1 : w.1 = 0 := by
      rcases int_or 0 w.1 with q | q
      · have := Int.mul_pos hv2 q
        omega
      · omega
    have w2 : 0 < w.2 := by unfold fwd at hw; omega
    unfold cx2
    rw [w1, Int.mul_zero]
    have := Int.mul_nonneg u0 (Int.le_of_lt w2)
    omega
def way (a b : Pt) : Pt := (b.1 - a.1, b.2 - a.2)
theorem lt_fwd {a b : Pt} (h : lt a b = true) : fwd (way a b) := by
  have := of_decide_eq_true h
  unfold fwd way
  dsimp only
  omega
theorem tn_crs (a b c : Pt) : tn a b c = cx2 (way a b) (way b c) := by unfold tn turnI cx2 way; grind
/-- a chain goes on -/
theorem ch1 {a b c p : Pt} (l1 : lt a b = true) (l2 : lt b c = true) (l3 : lt c p = true) (h1 : 0 < tn a b c) (h2 : 0 < tn b c p) : 0 < tn a b p := by
  rw [tn_crs] at h1 h2
  have := turns3 (lt_fwd l1) (lt_fwd l2) (lt_fwd l3) h1 (Int.le_of_lt h2)
  have e : tn a b p = cx2 (way a b) (way b c) + cx2 (way a b) (way c p) := by unfold tn turnI cx2 way; grind
  omega
/-- a point before the last corner -/
theorem ch2 {z b p q : Pt} (l1 : lt z b = true) (l2 : lt b p = true) (l3 : lt q b = true) (h1 : 0 ≤ tn z b q) (h2 : 0 < tn z b p) : 0 < tn b p q := by
  rw [tn_crs] at h2
  have e1 : tn z b q = cx2 (way q b) (way z b) := by unfold tn turnI cx2 way; grind
  have e2 : tn b p q = cx2 (way q b) (way b p) := by unfold tn turnI cx2 way; grind
  rw [e1] at h1
  rw [e2]
  exact turns2 (lt_fwd l3) (lt_fwd l1) (lt_fwd l2) h1 h2
/-- a corner is dropped: points behind it -/
theorem ch3 {b c p q : Pt} (h1 : tn b c p ≤ 0) (h2 : 0 ≤ tn c p q) (h3 : 0 ≤ tn b c q) : 0 ≤ tn b p q := by
  have e : tn b p q = tn c p q + tn b c q - tn b c p := by unfold tn turnI; grind
  omega
/-- a corner is dropped: points before it -/
theorem ch4 {b c p q : Pt} (l1 : lt b c = true) (l2 : lt c p = true) (l3 : lt b q = true) (h1 : tn b c p ≤ 0) (h2 : 0 ≤ tn b c q) : 0 ≤ tn b p q := by
  have e1 : tn b c p = 0 - cx2 (way c p) (way b c) := by unfold tn turnI cx2 way; grind
  have e2 : tn b c q = cx2 (way b c) (way b q) := by unfold tn turnI cx2 way; grind
  have e3 : tn b p q = cx2 (way b c) (way b q) + cx2 (way c p) (way b q) := by unfold tn turnI cx2 way; grind
  rw [e2] at h2
  have := turns4 (lt_fwd l2) (lt_fwd l1) (lt_fwd l3) (by omega) h2
  omega
/-- a point behind an edge of a chain -/
theorem ch5 {a b c q : Pt} (l1 : lt a b = true) (l2 : lt b c = true) (l3 : lt b q = true) (h1 : 0 < tn a b c) (h2 : 0 ≤ tn b c q) : 0 < tn a b q := by
  rw [tn_crs] at h1
  have e1 : tn b c q = cx2 (way b c) (way b q) := by unfold tn turnI cx2 way; grind
  have e2 : tn a b q = cx2 (way a b) (way b q) := by unfold tn turnI cx2 way; grind
  rw [e1] at h2
  rw [e2]
  exact turns3 (lt_fwd l1) (lt_fwd l2) (lt_fwd l3) h1 h2
/-! ### the chain, its last corner first -/
def popR (p : Pt) : List Pt → List Pt
  | c :: b :: r => if tn b c p ≤ 0 then popR p (b :: r) else c :: b :: r
  | l => l
/-- a chain of which the points S are left or on -/
def Conv (S : List Pt) : List Pt → Prop
  | c :: b :: r => lt b c = true ∧ (∀ q ∈ S, 0 ≤ tn b c q) ∧ (∀ a, r.head? = some a → 0 < tn a b c) ∧ Conv S (b :: r)
  | [c] => ∀ q ∈ S, lt q c = false
  | [] => True
theorem popR_ok {S : List Pt} {p : Pt} (hp : ∀ q ∈ S, lt q p = true) : ∀ (r : List Pt) (c : Pt), c ∈ S → (∀ x ∈ r, x ∈ S) → Conv S (c :: r) → (∀ q ∈ S, lt c q = true → 0 ≤ tn c p q) →
    ∃ c' r', popR p (c :: r) = c' :: r' ∧ (c' :: r') <:+ (c :: r) ∧ Conv S (c' :: r') ∧ (∀ q ∈ S, lt c' q = true → 0 ≤ tn c' p q) ∧ (∀ a, r'.head? = some a → 0 < tn a c' p)
  | [], c, hc, hr, hC, hq => ⟨c, [], rfl, List.suffix_refl _, hC, hq, fun a h => by cases h⟩
  | b :: r, c, hc, hr, hC, hq => by
    obtain ⟨l1, l2, l3, l4⟩ := hC
    by_cases q : tn b c p ≤ 0
    · have hb := hr b (by simp)
      obtain ⟨c', r', e, s, g1, g2, g3⟩ := popR_ok hp r b hb (fun x hx => hr x (by simp [hx])) l4 fun x hx lx => by
        by_cases e : lt c x = true
        · exact ch3 q (hq x hx e) (l2 x hx)
        · by_cases e2 : lt x c = true
          · exact ch4 l1 (hp c hc) lx q (l2 x hx)
          · have ex : c = x := lt_tri (by simpa using e2) (by simpa using e) |>.symm ▸ rfl
            subst ex
            have : tn b p c = 0 - tn b c p := by unfold tn turnI; grind
            omega
      refine ⟨c', r', ?_, s.trans (List.suffix_cons _ _), g1, g2, g3⟩
      show (if tn b c p ≤ 0 then popR p (b :: r) else c :: b :: r) = _
      rw [if_pos q]
      exact e
    · refine ⟨c, b :: r, ?_, List.suffix_refl _, ⟨l1, l2, l3, l4⟩, hq, fun a h => ?_⟩
      · show (if tn b c p ≤ 0 then popR p (b :: r) else c :: b :: r) = _
        rw [if_neg q]
      · cases h
        omega
/-- a further point behind the chain -/
theorem Conv.more {S : List Pt} {p : Pt} : ∀ (r : List Pt) (c : Pt), Conv S (c :: r) → lt c p = true → (∀ a, r.head? = some a → 0 < tn a c p) → Conv (p :: S) (c :: r)
  | [], c, h, l, t => fun q hq => by
    rcases List.mem_cons.mp hq with rfl | hq
    · exact lt_le l
    · exact h q hq
  | b :: r, c, h, l, t => by
    obtain ⟨l1, l2, l3, l4⟩ := h
    have t1 := t b rfl
    refine ⟨l1, fun q hq => ?_, l3, Conv.more r b l4 ?_ fun a ha => ?_⟩
    · rcases List.mem_cons.mp hq with rfl | hq
      · omega
      · exact l2 q hq
    · exact lt_trans l1 l
    · have la : lt a b = true := by
        cases r with
        | nil => cases ha
        | cons x r => cases ha; exact l4.1
      exact ch1 la l1 l (l3 a ha) t1
theorem Conv.push {S : List Pt} {p : Pt} {st : List Pt} (hp : ∀ q ∈ S, lt q p = true) (sub : ∀ x ∈ st, x ∈ S) (top : ∀ c, st.head? = some c → ∀ q ∈ S, lt c q = false) (h : Conv S st) (ne : S ≠ [] → st ≠ []) : Conv (p :: S) (p :: popR p st) := by
  cases st with
  | nil =>
    have e : S = [] := by
      cases S with
      | nil => rfl
      | cons x S => exact absurd rfl (ne (by simp))
    subst e
    intro q hq
    rw [List.mem_singleton] at hq
    subst hq
    exact lt_irr _
  | cons c r =>
    obtain ⟨c', r', e, s, g1, g2, g3⟩ := popR_ok hp r c (sub c (by simp)) (fun x hx => sub x (by simp [hx])) h fun q hq l => by
      rw [top c rfl q hq] at l
      cases l
    rw [e]
    have lc := hp c' (sub c' (s.subset (by simp)))
    refine ⟨lc, fun q hq => ?_, g3, g1.more r' c' lc g3⟩
    rcases List.mem_cons.mp hq with rfl | hq
    · have : tn c' q q = 0 := by unfold tn turnI; grind
      omega
    · by_cases e1 : lt c' q = true
      · exact g2 q hq e1
      · by_cases e2 : lt q c' = true
        · cases r' with
          | nil =>
            rw [g1 q hq] at e2
            cases e2
          | cons a r' =>
            exact Int.le_of_lt (ch2 g1.1 lc e2 (g1.2.1 q hq) (g3 a rfl))
        · have ex : q = c' := lt_tri (by simpa using e2) (by simpa using e1)
          subst ex
          have : tn q p q = 0 := by unfold tn turnI; grind
          omega
/-- each edge: all points left or on; those on it between its ends -/
def EdgeOk (S : List Pt) (b c : Pt) : Prop := ∀ q ∈ S, 0 ≤ tn b c q ∧ (tn b c q = 0 → lt q b = false ∧ lt c q = false)
theorem Conv.edge {S : List Pt} : ∀ (u : List Pt) (b c : Pt) (v : List Pt), Conv S (u ++ c :: b :: v) → (∀ e, (u ++ c :: b :: v).head? = some e → ∀ q ∈ S, lt e q = false) → EdgeOk S b c ∧ lt b c = true ∧ (∀ d, u.getLast? = some d → lt c d = true ∧ 0 < tn b c d ∧ ∀ q ∈ S, 0 ≤ tn c d q)
  | [], b, c, v, h, top => by
    obtain ⟨l1, l2, l3, l4⟩ := h
    refine ⟨fun q hq => ⟨l2 q hq, fun z => ⟨?_, top c rfl q hq⟩⟩, l1, fun d hd => by cases hd⟩
    cases v with
    | nil => exact l4 q hq
    | cons a v =>
      refine Bool.eq_false_iff.mpr fun w => ?_
      have := ch2 l4.1 l1 w (l4.2.1 q hq) (l3 a rfl)
      omega
  | [d], b, c, v, h, top => by
    obtain ⟨m1, m2, m3, l1, l2, l3, l4⟩ := h
    have t := m3 b rfl
    refine ⟨fun q hq => ⟨l2 q hq, fun z => ⟨?_, ?_⟩⟩, l1, fun e he => by cases he; exact ⟨m1, t, m2⟩⟩
    · cases v with
      | nil => exact l4 q hq
      | cons a v =>
        refine Bool.eq_false_iff.mpr fun w => ?_
        have := ch2 l4.1 l1 w (l4.2.1 q hq) (l3 a rfl)
        omega
    · refine Bool.eq_false_iff.mpr fun w => ?_
      have := ch5 l1 m1 w t (m2 q hq)
      omega
  | x :: d :: u, b, c, v, h, top => by
    -- the head is not needed any more: the edge below has one above it
    have go : ∀ (u : List Pt) (d b c : Pt) (v : List Pt), Conv S (d :: u ++ c :: b :: v) → EdgeOk S b c ∧ lt b c = true ∧ ∀ e, (d :: u).getLast? = some e → lt c e = true ∧ 0 < tn b c e ∧ ∀ q ∈ S, 0 ≤ tn c e q := by
      intro u
      induction u with
      | nil =>
        intro d b c v h
        obtain ⟨m1, m2, m3, l1, l2, l3, l4⟩ := h
        have t := m3 b rfl
        refine ⟨fun q hq => ⟨l2 q hq, fun z => ⟨?_, ?_⟩⟩, l1, fun e he => by cases he; exact ⟨m1, t, m2⟩⟩
        · cases v with
          | nil => exact l4 q hq
          | cons a v =>
            refine Bool.eq_false_iff.mpr fun w => ?_
            have := ch2 l4.1 l1 w (l4.2.1 q hq) (l3 a rfl)
            omega
        · refine Bool.eq_false_iff.mpr fun w => ?_
          have := ch5 l1 m1 w t (m2 q hq)
          omega
      | cons y u ih =>
        intro d b c v h
        obtain ⟨g1, g2, g3⟩ := ih y b c v h.2.2.2
        refine ⟨g1, g2, fun e he => g3 e ?_⟩
        rw [List.getLast?_cons_cons] at he
        exact he
    obtain ⟨g1, g2, g3⟩ := go u d b c v h.2.2.2
    refine ⟨g1, g2, fun e he => g3 e ?_⟩
    rw [List.getLast?_cons_cons] at he
    exact he
theorem popR_suffix (p : Pt) : ∀ st, popR p st <:+ st
  | [] => List.suffix_refl _
  | [c] => List.suffix_refl _
  | c :: b :: r => by
    show (if tn b c p ≤ 0 then popR p (b :: r) else c :: b :: r) <:+ _
    split
    · exact (popR_suffix p (b :: r)).trans (List.suffix_cons _ _)
    · exact List.suffix_refl _
theorem popR_ne (p : Pt) : ∀ r c, popR p (c :: r) ≠ []
  | [], c => by simp [popR]
  | b :: r, c => by
    show (if tn b c p ≤ 0 then popR p (b :: r) else c :: b :: r) ≠ []
    split
    · exact popR_ne p r b
    · simp
/-- the chain of the points R, the last of them first -/
def chainS : List Pt → List Pt
  | [] => []
  | p :: R => p :: popR p (chainS R)
theorem suffix_last {l m : List Pt} (h : l <:+ m) (ne : l ≠ []) : l.getLast? = m.getLast? := by
  obtain ⟨t, rfl⟩ := h
  rw [List.getLast?_append]
  cases e : l.getLast? with
  | none => exact absurd (List.getLast?_eq_none_iff.mp e) ne
  | some x => rfl
structure ChainOk (R st : List Pt) : Prop where
  conv : Conv R st
  sub : ∀ x ∈ st, x ∈ R
  head : st.head? = R.head?
  last : st.getLast? = R.getLast?
  desc : st.Pairwise fun a b => lt b a = true
theorem head_top {R : List Pt} (h : R.Pairwise fun a b => lt b a = true) : ∀ c, R.head? = some c → ∀ q ∈ R, lt c q = false := fun c hc q hq => by
  cases R with
  | nil => cases hc
  | cons x R =>
    cases hc
    rcases List.mem_cons.mp hq with rfl | hq
    · exact lt_irr _
    · exact lt_le ((List.pairwise_cons.mp h).1 q hq)
theorem chainS_ok : ∀ R : List Pt, (R.Pairwise fun a b => lt b a = true) → ChainOk R (chainS R)
  | [], _ => ⟨True.intro, fun x h => h, rfl, rfl, .nil⟩
  | p :: R, h => by
    obtain ⟨h1, h2⟩ := List.pairwise_cons.mp h
    have C := chainS_ok R h2
    have ne : R ≠ [] → chainS R ≠ [] := fun n z => by
      cases R with
      | nil => exact n rfl
      | cons x R => cases z
    have sub : ∀ x ∈ popR p (chainS R), x ∈ R := fun x hx => C.sub x ((popR_suffix p _).subset hx)
    refine ⟨C.conv.push h1 C.sub (fun c hc => head_top h2 c (by rw [← C.head]; exact hc)) ne, fun x hx => ?_, rfl, ?_, ?_⟩
    · rcases List.mem_cons.mp hx with rfl | hx
      · simp
      · exact List.mem_cons_of_mem _ (sub x hx)
    · show (p :: popR p (chainS R)).getLast? = _
      cases R with
      | nil => rfl
      | cons x R =>
        have n1 : popR p (chainS (x :: R)) ≠ [] := popR_ne _ _ _
        obtain ⟨y, r, e⟩ : ∃ y r, popR p (chainS (x :: R)) = y :: r := by
          cases q : popR p (chainS (x :: R)) with
          | nil => exact absurd q n1
          | cons y r => exact ⟨y, r, rfl⟩
        rw [e, List.getLast?_cons_cons, List.getLast?_cons_cons, ← e, suffix_last (popR_suffix _ _) n1, C.last]
    · exact List.pairwise_cons.mpr ⟨fun x hx => h1 x (sub x hx), C.desc.sublist (popR_suffix p _).sublist⟩
/-! ### the other way -/
def neg (p : Pt) : Pt := (-p.1, -p.2)
theorem tn_neg (a b c : Pt) : tn (neg a) (neg b) (neg c) = tn a b c := by unfold tn turnI neg; grind
theorem lt_neg (a b : Pt) : lt (neg a) (neg b) = lt b a := decide_eq_decide.mpr (by unfold neg; dsimp only; omega)
theorem popR_neg (p : Pt) : ∀ st, popR (neg p) (st.map neg) = (popR p st).map neg
  | [] => rfl
  | [c] => rfl
  | c :: b :: r => by
    show (if tn (neg b) (neg c) (neg p) ≤ 0 then popR (neg p) ((b :: r).map neg) else (c :: b :: r).map neg) = List.map neg (if tn b c p ≤ 0 then popR p (b :: r) else c :: b :: r)
    rw [tn_neg, popR_neg p (b :: r)]
    split <;> rfl
theorem chainS_neg : ∀ R, chainS (R.map neg) = (chainS R).map neg
  | [] => rfl
  | p :: R => by
    show neg p :: popR (neg p) (chainS (R.map neg)) = neg p :: (popR p (chainS R)).map neg
    rw [chainS_neg R, popR_neg]
end My
namespace My
open PySem L2
/-! ## the hull: the way around, corner by corner -/
def d1 (a q : Pt) : Nat := (q.1 - a.1).natAbs + (q.2 - a.2).natAbs
theorem dist_le {b c q : Pt} (l : lt b c = true) (z : tn b c q = 0) (h1 : lt q b = false) (h2 : lt c q = false) : d1 b q ≤ d1 b c ∧ (d1 b q = d1 b c → q = c) := by
  have l := of_decide_eq_true l
  have h1 := of_decide_eq_false h1
  have h2 := of_decide_eq_false h2
  have e : (c.1 - b.1) * (q.2 - b.2) = (c.2 - b.2) * (q.1 - b.1) := by unfold tn turnI at z; omega
  obtain ⟨bx, dy⟩ := b
  obtain ⟨cx, cy⟩ := c
  obtain ⟨qx, qy⟩ := q
  unfold d1
  dsimp only at *
  rcases int_or bx cx with p | p
  · have n := congrArg Int.natAbs e
    rw [Int.natAbs_mul, Int.natAbs_mul] at n
    have m : (qx - bx).natAbs ≤ (cx - bx).natAbs := by omega
    have p0 : 0 < (cx - bx).natAbs := by omega
    have s1 : (cx - bx).natAbs * (qy - dy).natAbs ≤ (cx - bx).natAbs * (cy - dy).natAbs := by
      rw [n, Nat.mul_comm (cx - bx).natAbs]
      exact Nat.mul_le_mul_left _ m
    have s2 := Nat.le_of_mul_le_mul_left s1 p0
    refine ⟨by omega, fun g => ?_⟩
    have ex : qx = cx := by omega
    subst ex
    rw [Int.mul_comm] at e
    have := Int.eq_of_mul_eq_mul_right (show qx - bx ≠ 0 by omega) e
    rw [show qy = cy by omega]
  · have ex : qx = bx := by omega
    have ec : cx = bx := by omega
    subst ex ec
    refine ⟨by omega, fun g => ?_⟩
    rw [show qy = cy by omega]
/-- the next corner -/
structure Nx (S : List Pt) (a t : Pt) : Prop where
  mem : t ∈ S
  ne : t ≠ a
  all : ∀ q ∈ S, 0 ≤ tn a t q ∧ (tn a t q = 0 → d1 a q ≤ d1 a t ∧ (d1 a q = d1 a t → q = t))
theorem Nx.unique {S S' : List Pt} {a t t' : Pt} (h : Nx S a t) (g : Nx S' a t') (e : ∀ x, x ∈ S ↔ x ∈ S') : t = t' := by
  have h1 := h.all t' ((e t').mpr g.mem)
  have g1 := g.all t ((e t).mp h.mem)
  have s : tn a t' t = 0 - tn a t t' := by unfold tn turnI; grind
  have z : tn a t t' = 0 := by omega
  obtain ⟨h2, h3⟩ := h1.2 z
  obtain ⟨g2, g3⟩ := g1.2 (by omega)
  exact g3 (by omega)
/-- the hull of S, begun at its least point -/
structure Wrap (S h : List Pt) : Prop where
  sub : ∀ x ∈ h, x ∈ S
  few : h.length ≤ S.length
  least : ∃ r L, h = L :: r ∧ (∀ q ∈ S, lt q L = false) ∧ L ∉ r
  one : h.length = 1 → ∀ q ∈ S, [q] = h
  next : 2 ≤ h.length → ∀ j a t, h[j]? = some a → (h ++ h.take 1)[j + 1]? = some t → Nx S a t
theorem Wrap.self {S h : List Pt} (W : Wrap S h) : Wrap h h := by
  obtain ⟨r, L, e, h1, h2⟩ := W.least
  refine ⟨fun x hx => hx, Nat.le_refl _, ⟨r, L, e, fun q hq => h1 q (W.sub q hq), h2⟩, fun o q hq => W.one o q (W.sub q hq), fun o j a t ha ht => ?_⟩
  have n := W.next o j a t ha ht
  refine ⟨?_, n.ne, fun q hq => n.all q (W.sub q hq)⟩
  rcases List.mem_append.mp (List.mem_of_getElem? ht) with g | g
  · exact g
  · exact List.mem_of_mem_take g
theorem Wrap.unique {S S' h h' : List Pt} (W : Wrap S h) (V : Wrap S' h') (e : ∀ x, x ∈ S ↔ x ∈ S') : h = h' := by
  obtain ⟨r, L, eh, h1, h2⟩ := W.least
  obtain ⟨r', L', eh', g1, g2⟩ := V.least
  have mL : L ∈ S := W.sub L (by rw [eh]; simp)
  have mL' : L' ∈ S' := V.sub L' (by rw [eh']; simp)
  have eL : L = L' := lt_tri (g1 L ((e L).mp mL)) (h1 L' ((e L').mpr mL'))
  subst eL
  -- one of one corner
  have single : ∀ {S S' h h' r r' : List Pt} (W : Wrap S h) (V : Wrap S' h') (e : ∀ x, x ∈ S ↔ x ∈ S') (eh : h = L :: r) (eh' : h' = L :: r'), r = [] → h = h' := fun {S S' h h' r r'} W V e eh eh' er => by
    subst er
    cases r' with
    | nil => rw [eh, eh']
    | cons x r' =>
      exfalso
      have n := V.next (by rw [eh']; simp) 0 L x (by rw [eh']; rfl) (by rw [eh']; rfl)
      have := W.one (by rw [eh]; rfl) x ((e x).mpr n.mem)
      rw [eh] at this
      injection this with this
      exact n.ne this
  by_cases er : r = []
  · exact single W V e eh eh' er
  by_cases er' : r' = []
  · exact (single V W (fun x => (e x).symm) eh' eh er').symm
  have two : 2 ≤ h.length := by
    cases r with
    | nil => exact absurd rfl er
    | cons x r => rw [eh]; simp
  have two' : 2 ≤ h'.length := by
    cases r' with
    | nil => exact absurd rfl er'
    | cons x r => rw [eh']; simp
  have step : ∀ j, j < h.length → j < h'.length → h[j]? = h'[j]? := by
    intro j
    induction j with
    | zero => intro _ _; rw [eh, eh']; rfl
    | succ j ih =>
      intro a b
      have i := ih (by omega) (by omega)
      obtain ⟨x, hx⟩ : ∃ x, h[j]? = some x := ⟨_, List.getElem?_eq_getElem (by omega)⟩
      obtain ⟨y, hy⟩ : ∃ y, h[j + 1]? = some y := ⟨_, List.getElem?_eq_getElem a⟩
      obtain ⟨y', hy'⟩ : ∃ y, h'[j + 1]? = some y := ⟨_, List.getElem?_eq_getElem b⟩
      have n1 := W.next two j x y hx (by rw [List.getElem?_append_left a]; exact hy)
      have n2 := V.next two' j x y' (by rw [← i]; exact hx) (by rw [List.getElem?_append_left b]; exact hy')
      rw [hy, hy', n1.unique n2 e]
  -- neither ends before the other
  have ends : ∀ {S S' h h' r r' : List Pt} (W : Wrap S h) (V : Wrap S' h') (e : ∀ x, x ∈ S ↔ x ∈ S') (eh : h = L :: r) (eh' : h' = L :: r') (g2 : L ∉ r') (two : 2 ≤ h.length) (two' : 2 ≤ h'.length) (step : ∀ j, j < h.length → j < h'.length → h[j]? = h'[j]?), ¬ h.length < h'.length := fun {S S' h h' r r'} W V e eh eh' g2 two two' step lt_ => by
    obtain ⟨x, hx⟩ : ∃ x, h[h.length - 1]? = some x := ⟨_, List.getElem?_eq_getElem (by omega)⟩
    obtain ⟨y', hy'⟩ : ∃ y, h'[h.length]? = some y := ⟨_, List.getElem?_eq_getElem lt_⟩
    have n1 := W.next two (h.length - 1) x L hx (by
      rw [show h.length - 1 + 1 = h.length by omega, List.getElem?_append_right (Nat.le_refl _), Nat.sub_self, eh]
      rfl)
    have n2 := V.next two' (h.length - 1) x y' (by rw [← step (h.length - 1) (by omega) (by omega)]; exact hx) (by
      rw [show h.length - 1 + 1 = h.length by omega, List.getElem?_append_left lt_]
      exact hy')
    have z := n1.unique n2 e
    subst z
    rw [eh'] at hy'
    rw [show h.length = h.length - 1 + 1 by omega, List.getElem?_cons_succ] at hy'
    exact g2 (List.mem_of_getElem? hy')
  have le1 := ends W V e eh eh' g2 two two' step
  have le2 := ends V W (fun x => (e x).symm) eh' eh h2 two' two fun j a b => (step j b a).symm
  refine List.ext_getElem? fun j => ?_
  by_cases q : j < h.length
  · exact step j q (by omega)
  · rw [List.getElem?_eq_none (by omega), List.getElem?_eq_none (by omega)]
/-! ### the two chains make it -/
theorem nodup_len : ∀ {l m : List Pt}, l.Nodup → (∀ x ∈ l, x ∈ m) → l.length ≤ m.length
  | [], _, _, _ => Nat.zero_le _
  | x :: l, m, h, s => by
    obtain ⟨h1, h2⟩ := List.nodup_cons.mp h
    obtain ⟨u, t, rfl⟩ := List.append_of_mem (s x (by simp))
    have := nodup_len (m := u ++ t) h2 fun y hy => by
      have := s y (by simp [hy])
      rw [List.mem_append, List.mem_cons] at this
      rw [List.mem_append]
      rcases this with a | rfl | a
      · exact .inl a
      · exact absurd hy h1
      · exact .inr a
    rw [List.length_append] at this ⊢
    rw [List.length_cons, List.length_cons]
    omega
theorem asc_nodup {l : List Pt} (h : l.Pairwise fun a b => lt b a = true) : l.Nodup := by
  rw [List.nodup_iff_pairwise_ne]
  exact h.imp fun {a b} l e => by rw [e, lt_irr] at l; cases l
theorem nodup_rev {l : List Pt} (h : l.Nodup) : l.reverse.Nodup := (List.reverse_perm l).nodup_iff.mpr h
theorem in_init {x : Pt} {l : List Pt} (h : x ∈ l.dropLast) : ∃ u y v, l = u ++ x :: y :: v := by
  have ne : l ≠ [] := fun e => by rw [e] at h; cases h
  obtain ⟨s, t, e⟩ := List.append_of_mem h
  have e2 := List.dropLast_concat_getLast ne
  rw [e, List.append_assoc, List.cons_append] at e2
  cases q : t ++ [l.getLast ne] with
  | nil => simp at q
  | cons y v => exact ⟨s, y, v, by rw [← e2, q]⟩
theorem no_both {b1 x y a1 : Pt} (l1 : lt b1 x = true) (l2 : lt x y = true) (l3 : lt x a1 = true) (h1 : 0 < tn b1 x y) (h2 : 0 ≤ tn a1 x b1) (h3 : 0 ≤ tn x y a1) : False := by
  rw [tn_crs] at h1
  have e2 : tn a1 x b1 = cx2 (way x a1) (way b1 x) := by unfold tn turnI cx2 way; grind
  have e3 : tn x y a1 = 0 - cx2 (way x a1) (way x y) := by unfold tn turnI cx2 way; grind
  rw [e2] at h2
  have := turns2 (lt_fwd l3) (lt_fwd l1) (lt_fwd l2) h2 h1
  omega
theorem adj_split {x y R : Pt} {D A' u v : List Pt} (h : D ++ R :: A' = u ++ x :: y :: v) : (∃ v', D ++ [R] = u ++ x :: y :: v') ∨ ∃ u', R :: A' = u' ++ x :: y :: v := by
  rcases List.append_eq_append_iff.mp h with ⟨a, rfl, e⟩ | ⟨c, rfl, e⟩
  · cases a with
    | nil => exact .inr ⟨[], e⟩
    | cons z a => exact .inr ⟨z :: a, e⟩
  · cases c with
    | nil => exact .inr ⟨[], e.symm⟩
    | cons z c =>
      injection e with e1 e2
      subst e1
      cases c with
      | nil =>
        injection e2 with e3 e4
        subst e3
        exact .inl ⟨[], by simp⟩
      | cons w c =>
        injection e2 with e3 e4
        subst e3
        exact .inl ⟨c ++ [R], by simp⟩
theorem neg_neg_ (p : Pt) : neg (neg p) = p := by
  obtain ⟨x, y⟩ := p
  show (- -x, - -y) = (x, y)
  rw [Int.neg_neg, Int.neg_neg]
theorem neg_inj {p q : Pt} (h : neg p = neg q) : p = q := by rw [← neg_neg_ p, h, neg_neg_]
theorem mem_neg {p : Pt} {l : List Pt} : neg p ∈ l.map neg ↔ p ∈ l := ⟨fun h => by
  obtain ⟨q, hq, e⟩ := List.mem_map.mp h
  rw [← neg_inj e]
  exact hq, fun h => List.mem_map.mpr ⟨p, h, rfl⟩⟩
theorem d1_neg (a q : Pt) : d1 (neg a) (neg q) = d1 a q := by unfold d1 neg; dsimp only; omega
theorem split_at {l : List Pt} {j : Nat} {a t : Pt} (h : l[j]? = some a) (g : l[j + 1]? = some t) : ∃ u v, l = u ++ a :: t :: v := by
  obtain ⟨hi, e1⟩ := List.getElem?_eq_some_iff.mp h
  obtain ⟨hj, e2⟩ := List.getElem?_eq_some_iff.mp g
  refine ⟨l.take j, l.drop (j + 2), ?_⟩
  have h1 := List.drop_eq_getElem_cons hi
  have h2 := List.drop_eq_getElem_cons hj
  rw [e1] at h1
  rw [e2] at h2
  rw [← h2, ← h1, List.take_append_drop]
section
variable {pl : List Pt}
theorem lower (asc : pl.Pairwise fun a b => lt a b = true) {u v : List Pt} {a t : Pt} (e : (chainS pl.reverse).reverse = u ++ a :: t :: v) : EdgeOk pl a t ∧ lt a t = true ∧ ∀ d, v.head? = some d → lt t d = true ∧ 0 < tn a t d ∧ ∀ q ∈ pl, 0 ≤ tn t d q := by
  have dsc : pl.reverse.Pairwise fun a b => lt b a = true := List.pairwise_reverse.mpr asc
  have C := chainS_ok pl.reverse dsc
  have es : chainS pl.reverse = v.reverse ++ t :: a :: u.reverse := by rw [← List.reverse_reverse (chainS pl.reverse), e]; simp
  have cv := C.conv
  have hd := C.head
  rw [es] at cv hd
  obtain ⟨g1, g2, g3⟩ := cv.edge v.reverse a t u.reverse (fun c hc => head_top dsc c (by rw [← hd]; exact hc))
  refine ⟨fun q hq => g1 q (List.mem_reverse.mpr hq), g2, fun d hd => ?_⟩
  obtain ⟨k1, k2, k3⟩ := g3 d (by rw [List.getLast?_reverse]; exact hd)
  exact ⟨k1, k2, fun q hq => k3 q (List.mem_reverse.mpr hq)⟩
theorem neg_asc (asc : pl.Pairwise fun a b => lt a b = true) : (pl.map neg).Pairwise fun a b => lt b a = true := List.pairwise_map.mpr (asc.imp fun {a b} h => by rw [lt_neg]; exact h)
theorem upper (asc : pl.Pairwise fun a b => lt a b = true) {u v : List Pt} {a t : Pt} (e : (chainS pl).reverse = u ++ a :: t :: v) : EdgeOk (pl.map neg) (neg a) (neg t) ∧ lt t a = true := by
  have C := chainS_ok (pl.map neg) (neg_asc asc)
  have es : chainS (pl.map neg) = (v.reverse.map neg) ++ neg t :: neg a :: u.reverse.map neg := by rw [chainS_neg, ← List.reverse_reverse (chainS pl), e]; simp
  have cv := C.conv
  have hd := C.head
  rw [es] at cv hd
  obtain ⟨g1, g2, _⟩ := cv.edge _ (neg a) (neg t) _ (fun c hc => head_top (neg_asc asc) c (by rw [← hd]; exact hc))
  rw [lt_neg] at g2
  exact ⟨g1, g2⟩
theorem wrap_of (asc : pl.Pairwise fun a b => lt a b = true) (two : 2 ≤ pl.length) : Wrap pl ((chainS pl.reverse).reverse.dropLast ++ (chainS pl).reverse.dropLast) := by
  have C1 := chainS_ok pl.reverse (List.pairwise_reverse.mpr asc)
  have C2 := chainS_ok (pl.map neg) (neg_asc asc)
  rw [chainS_neg] at C2
  obtain ⟨L, hL⟩ : ∃ L, pl.head? = some L := by
    cases pl with
    | nil => simp at two
    | cons x r => exact ⟨x, rfl⟩
  obtain ⟨R, hR⟩ : ∃ R, pl.getLast? = some R := by
    cases e : pl.getLast? with
    | none => rw [List.getLast?_eq_none_iff.mp e] at two; simp at two
    | some R => exact ⟨R, rfl⟩
  have nLR : L ≠ R := fun e => by
    cases pl with
    | nil => cases hL
    | cons x r =>
      cases hL
      cases r with
      | nil => simp at two
      | cons y r =>
        rw [List.getLast?_cons_cons] at hR
        have := (List.pairwise_cons.mp asc).1 R (List.mem_of_getLast? hR)
        rw [e, lt_irr] at this
        cases this
  have hB : (chainS pl.reverse).reverse.head? = some L := by rw [List.head?_reverse, C1.last, List.getLast?_reverse, hL]
  have lB : (chainS pl.reverse).reverse.getLast? = some R := by rw [List.getLast?_reverse, C1.head, List.head?_reverse, hR]
  have lA : (chainS pl).reverse.getLast? = some L := by
    rw [List.getLast?_reverse]
    cases pl with
    | nil => cases hL
    | cons x r => exact hL
  have hA : (chainS pl).reverse.head? = some R := by
    rw [List.head?_reverse]
    have := C2.last
    rw [List.getLast?_map, List.getLast?_map, hR] at this
    cases e : (chainS pl).getLast? with
    | none => rw [e] at this; cases this
    | some x =>
      rw [e] at this
      injection this with this
      rw [neg_inj this]
  have subB : ∀ x ∈ (chainS pl.reverse).reverse, x ∈ pl := fun x hx => List.mem_reverse.mp (C1.sub x (List.mem_reverse.mp hx))
  have subA : ∀ x ∈ (chainS pl).reverse, x ∈ pl := fun x hx => mem_neg.mp (C2.sub _ (mem_neg.mpr (List.mem_reverse.mp hx)))
  have nB : (chainS pl.reverse).reverse.Nodup := nodup_rev (asc_nodup C1.desc)
  have nA : (chainS pl).reverse.Nodup := by
    refine nodup_rev ?_
    have := asc_nodup C2.desc
    rw [List.nodup_iff_pairwise_ne, List.pairwise_map] at this
    rw [List.nodup_iff_pairwise_ne]
    exact this.imp fun {a b} n e => n (by rw [e])
  have lowE := fun u v a t e => lower asc (u := u) (v := v) (a := a) (t := t) e
  have uppE := fun u v a t e => upper asc (u := u) (v := v) (a := a) (t := t) e
  generalize (chainS pl.reverse).reverse = B at *
  generalize (chainS pl).reverse = A at *
  clear C1 C2
  have eB : B = B.dropLast ++ [R] := by
    have ne : B ≠ [] := fun e => by rw [e] at hB; cases hB
    rw [List.getLast?_eq_some_getLast ne] at lB
    injection lB with lB
    conv => lhs; rw [← List.dropLast_concat_getLast ne, lB]
  have eA : A = A.dropLast ++ [L] := by
    have ne : A ≠ [] := fun e => by rw [e] at hA; cases hA
    rw [List.getLast?_eq_some_getLast ne] at lA
    injection lA with lA
    conv => lhs; rw [← List.dropLast_concat_getLast ne, lA]
  obtain ⟨A', hA'⟩ : ∃ A', A = R :: A' := by
    cases A with
    | nil => cases hA
    | cons x r => cases hA; exact ⟨r, rfl⟩
  obtain ⟨D', hD⟩ : ∃ D', B.dropLast = L :: D' := by
    cases q : B.dropLast with
    | nil =>
      rw [q] at eB
      rw [eB] at hB
      cases hB
      exact absurd rfl nLR
    | cons x r =>
      rw [q] at eB
      rw [eB] at hB
      cases hB
      exact ⟨r, rfl⟩
  have nA0 : 1 ≤ A.dropLast.length := by
    cases q : A.dropLast with
    | nil =>
      rw [q] at eA
      rw [eA] at hA
      cases hA
      exact absurd rfl nLR
    | cons x r => simp
  have subD : ∀ x ∈ B.dropLast, x ∈ B := fun x hx => (List.dropLast_sublist _).subset hx
  have subA0 : ∀ x ∈ A.dropLast, x ∈ A := fun x hx => (List.dropLast_sublist _).subset hx
  have nd : (B.dropLast ++ A.dropLast).Nodup := by
    refine List.nodup_append.mpr ⟨nB.sublist (List.dropLast_sublist _), nA.sublist (List.dropLast_sublist _), fun x hx y hy e => ?_⟩
    subst e
    have xL : x ≠ L := fun e => by
      rw [eA] at nA
      exact (List.nodup_append.mp nA).2.2 x hy L (by simp) e
    have xR : x ≠ R := fun e => by
      rw [eB] at nB
      exact (List.nodup_append.mp nB).2.2 x hx R (by simp) e
    obtain ⟨u, y, v, e1⟩ := in_init hx
    obtain ⟨u2, y2, v2, e2⟩ := in_init hy
    rcases List.eq_nil_or_concat u with rfl | ⟨u', b1, rfl⟩
    · rw [e1] at hB
      cases hB
      exact xL rfl
    rcases List.eq_nil_or_concat u2 with rfl | ⟨u2', a1, rfl⟩
    · rw [e2] at hA
      cases hA
      exact xR rfl
    rw [List.concat_eq_append, List.append_assoc] at e1 e2
    obtain ⟨k1, k2, k3⟩ := lowE u' (y :: v) b1 x e1
    obtain ⟨m1, m2, m3⟩ := k3 y rfl
    obtain ⟨n1, n2⟩ := uppE u2' (y2 :: v2) a1 x e2
    have mb : b1 ∈ pl := subB b1 (by rw [e1]; simp)
    have ma : a1 ∈ pl := subA a1 (by rw [e2]; simp)
    have o1 := (n1 (neg b1) (mem_neg.mpr mb)).1
    rw [tn_neg] at o1
    exact no_both k2 m1 n2 m2 o1 (m3 a1 ma)
  have sub : ∀ x ∈ B.dropLast ++ A.dropLast, x ∈ pl := fun x hx => (List.mem_append.mp hx).elim (fun h => subB x (subD x h)) fun h => subA x (subA0 x h)
  refine ⟨sub, nodup_len nd sub, ⟨D' ++ A.dropLast, L, by rw [hD]; rfl, fun q hq => ?_, ?_⟩, fun o => ?_, fun _ j a t ha ht => ?_⟩
  · cases pl with
    | nil => cases hL
    | cons x r =>
      cases hL
      rcases List.mem_cons.mp hq with rfl | hq
      · exact lt_irr _
      · exact lt_le ((List.pairwise_cons.mp asc).1 q hq)
  · rw [hD] at nd
    exact (List.nodup_cons.mp nd).1
  · rw [List.length_append, hD, List.length_cons] at o
    omega
  · have eP : (B.dropLast ++ A.dropLast) ++ (B.dropLast ++ A.dropLast).take 1 = B.dropLast ++ R :: A' := by
      rw [← hA']
      conv => rhs; rw [eA]
      rw [List.append_assoc]
      rw [hD]
      rfl
    have hj := (List.getElem?_eq_some_iff.mp ha).1
    obtain ⟨u, v, e⟩ := split_at (l := (B.dropLast ++ A.dropLast) ++ (B.dropLast ++ A.dropLast).take 1) (by rw [List.getElem?_append_left hj]; exact ha) ht
    rw [eP] at e
    rcases adj_split e with ⟨v', e1⟩ | ⟨u', e1⟩
    · rw [← eB] at e1
      obtain ⟨k1, k2, _⟩ := lowE u v' a t e1
      refine ⟨subB t (by rw [e1]; simp), (fun z => by rw [z, lt_irr] at k2; exact Bool.noConfusion k2), fun q hq => ⟨(k1 q hq).1, fun z => ?_⟩⟩
      obtain ⟨z1, z2⟩ := (k1 q hq).2 z
      exact dist_le k2 z z1 z2
    · rw [← hA'] at e1
      obtain ⟨k1, k2⟩ := uppE u' v a t e1
      refine ⟨subA t (by rw [e1]; simp), (fun z => by rw [z, lt_irr] at k2; exact Bool.noConfusion k2), fun q hq => ?_⟩
      have k := k1 (neg q) (mem_neg.mpr hq)
      rw [tn_neg] at k
      refine ⟨k.1, fun z => ?_⟩
      obtain ⟨z1, z2⟩ := k.2 z
      have := dist_le (b := neg a) (c := neg t) (q := neg q) (by rw [lt_neg]; exact k2) (by rw [tn_neg]; exact z) z1 z2
      rw [d1_neg, d1_neg] at this
      exact ⟨this.1, fun g => neg_inj (this.2 g)⟩
end
/-- of points that come more than once, too -/
theorem Wrap.of {pl S h : List Pt} (W : Wrap pl h) (nd : pl.Nodup) (e : ∀ x, x ∈ pl ↔ x ∈ S) : Wrap S h := by
  obtain ⟨r, L, eh, h1, h2⟩ := W.least
  refine ⟨fun x hx => (e x).mp (W.sub x hx), Nat.le_trans W.few (nodup_len nd fun x hx => (e x).mp hx), ⟨r, L, eh, fun q hq => h1 q ((e q).mpr hq), h2⟩, fun o q hq => W.one o q ((e q).mpr hq), fun o j a t ha ht => ?_⟩
  have n := W.next o j a t ha ht
  exact ⟨(e t).mp n.mem, n.ne, fun q hq => n.all q ((e q).mpr hq)⟩
theorem wrap_one (L : Pt) : Wrap [L] [L] := ⟨fun x h => h, Nat.le_refl _, ⟨[], L, rfl, fun q hq => by rw [List.mem_singleton] at hq; subst hq; exact lt_irr _, by simp⟩, fun _ q hq => by rw [List.mem_singleton] at hq; rw [hq], fun o => by simp at o⟩
/-- any points, in order, each once -/
theorem in_order : ∀ S : List Pt, ∃ pl : List Pt, (pl.Pairwise fun a b => lt a b = true) ∧ ∀ x, x ∈ pl ↔ x ∈ S
  | [] => ⟨[], .nil, fun x => Iff.rfl⟩
  | y :: S => by
    obtain ⟨pl, h, e⟩ := in_order S
    have ins : ∀ pl : List Pt, (pl.Pairwise fun a b => lt a b = true) → ∃ m : List Pt, (m.Pairwise fun a b => lt a b = true) ∧ ∀ x, x ∈ m ↔ x = y ∨ x ∈ pl := by
      intro pl
      induction pl with
      | nil => exact fun _ => ⟨[y], List.pairwise_singleton _ _, fun x => by simp⟩
      | cons z pl ih =>
        intro h
        obtain ⟨h1, h2⟩ := List.pairwise_cons.mp h
        by_cases l1 : lt y z = true
        · refine ⟨y :: z :: pl, List.pairwise_cons.mpr ⟨fun x hx => ?_, h⟩, fun x => by simp⟩
          rcases List.mem_cons.mp hx with rfl | hx
          · exact l1
          · exact lt_trans l1 (h1 x hx)
        · by_cases l2 : lt z y = true
          · obtain ⟨m, m1, m2⟩ := ih h2
            refine ⟨z :: m, List.pairwise_cons.mpr ⟨fun x hx => ?_, m1⟩, fun x => ?_⟩
            · rcases (m2 x).mp hx with rfl | hx
              · exact l2
              · exact h1 x hx
            · rw [List.mem_cons, List.mem_cons, m2 x]
              constructor
              · rintro (a | a | a)
                · exact .inr (.inl a)
                · exact .inl a
                · exact .inr (.inr a)
              · rintro (a | a | a)
                · exact .inr (.inl a)
                · exact .inl a
                · exact .inr (.inr a)
          · have ez : y = z := lt_tri (by simpa using l1) (by simpa using l2)
            subst ez
            exact ⟨y :: pl, h, fun x => by simp⟩
    obtain ⟨m, m1, m2⟩ := ins pl h
    exact ⟨m, m1, fun x => by rw [m2, e, List.mem_cons]⟩
theorem sorted_nodup {pl : List Pt} (h : pl.Pairwise fun a b => lt a b = true) : pl.Nodup := by
  rw [List.nodup_iff_pairwise_ne]
  exact h.imp fun {a b} l e => by rw [e, lt_irr] at l; cases l
end My
namespace My
open PySem L2
/-! ## a list read from its end -/
theorem refs_back (c : Zp) (r : List Zp) : refs (c :: r).reverse = refs r.reverse ++ [.ref c.1] := by rw [List.reverse_cons, refs_app]; rfl
theorem at_back1 (c : Zp) (r : List Zp) : atI (refs (c :: r).reverse) (-1) = some (.ref c.1) := by
  rw [refs_back]
  unfold atI ixN
  have ln : (refs r.reverse ++ [V.ref c.1]).length = r.length + 1 := by rw [List.length_append, refs_len, List.length_reverse]; rfl
  rw [if_neg (by decide), if_pos (by rw [ln]; omega)]
  simp only [Option.bind_some]
  rw [ln, show (-1 + ((r.length + 1 : Nat) : Int)).toNat = r.length by omega, List.getElem?_append_right (by rw [refs_len, List.length_reverse]; omega), refs_len, List.length_reverse, Nat.sub_self]
  rfl
theorem at_back2 (c b : Zp) (r : List Zp) : atI (refs (c :: b :: r).reverse) (-2) = some (.ref b.1) := by
  rw [refs_back, refs_back]
  unfold atI ixN
  have ln : (refs r.reverse ++ [V.ref b.1] ++ [V.ref c.1]).length = r.length + 2 := by rw [List.length_append, List.length_append, refs_len, List.length_reverse]; rfl
  rw [if_neg (by decide), if_pos (by rw [ln]; omega)]
  simp only [Option.bind_some]
  rw [ln, show (-2 + ((r.length + 2 : Nat) : Int)).toNat = r.length by omega, List.append_assoc, List.getElem?_append_right (by rw [refs_len, List.length_reverse]; omega), refs_len, List.length_reverse, Nat.sub_self]
  rfl
theorem last_back (c : Zp) (r : List Zp) : (refs (c :: r).reverse)[(refs (c :: r).reverse).length - 1]? = some (.ref c.1) := by
  rw [refs_back, List.length_append, List.length_singleton, Nat.add_sub_cancel, List.getElem?_append_right (Nat.le_refl _), Nat.sub_self]
  rfl
theorem drop_back (c : Zp) (r : List Zp) : (refs (c :: r).reverse).dropLast = refs r.reverse := by rw [refs_back, List.dropLast_concat]
theorem crd_rev (zs : List Zp) : crd zs.reverse = (crd zs).reverse := List.map_reverse
theorem crd_app (zs ws : List Zp) : crd (zs ++ ws) = crd zs ++ crd ws := List.map_append
theorem mem_crd {z : Zp} {zs : List Zp} (h : z ∈ zs) : z.2 ∈ crd zs := List.mem_map.mpr ⟨z, h, rfl⟩
theorem cut_m1 (xs : List V) : cutV xs none (some (-1)) = xs.dropLast := by
  unfold cutV
  rw [show HT.sIx xs.length 0 none = 0 from rfl, List.drop_zero, Nat.sub_zero, List.dropLast_eq_take]
  congr 1
  show (if (-1 : Int) < 0 then (-1 + (xs.length : Int)).toNat else min (-1 : Int).toNat xs.length) = _
  rw [if_pos (by decide)]
  omega
theorem refs_init (zs : List Zp) : (refs zs).dropLast = refs zs.dropLast := by
  rw [List.dropLast_eq_take, List.dropLast_eq_take, refs_take, refs_len]
theorem crd_init (zs : List Zp) : crd zs.dropLast = (crd zs).dropLast := by
  rw [List.dropLast_eq_take, List.dropLast_eq_take, List.length_map]
  exact List.map_take
theorem sorted_asc {cs : List Pn} (nd : (cs.map fun b => b.2).Nodup) : (crd (cs.mergeSort fun p q => decide (p.2.1 < q.2.1 ∨ (p.2.1 = q.2.1 ∧ p.2.2 ≤ q.2.2)))).Pairwise fun a b => lt a b = true := by
  have h1 := sortP_le cs
  have h2 : (crd (cs.mergeSort fun p q => decide (p.2.1 < q.2.1 ∨ (p.2.1 = q.2.1 ∧ p.2.2 ≤ q.2.2)))).Nodup := ((sortP_perm cs).map _).nodup_iff.mpr nd
  rw [List.nodup_iff_pairwise_ne, List.pairwise_map] at h2
  rw [List.pairwise_map]
  refine (h1.and h2).imp fun {a b} h => ?_
  obtain ⟨g1, g2⟩ := h
  cases e : lt a.2 b.2 with
  | true => rfl
  | false => exact absurd (lt_tri e g1) g2
theorem chainS_len : ∀ R : List Pt, (chainS R).length ≤ R.length
  | [] => Nat.le_refl _
  | p :: R => Nat.succ_le_succ (Nat.le_trans (popR_suffix p _).length_le (chainS_len R))
theorem chain_len {ws : List Zp} {R : List Pt} (h : crd ws = (chainS R).reverse) : ws.length ≤ R.length := by
  have := congrArg List.length h
  rw [List.length_map, List.length_reverse] at this
  have := chainS_len R
  omega
end My
namespace My
open PySem L2
/-! ## hulls are rings that hold all -/
theorem edge_box {b c q : Pt} (l : lt b c = true) (z : tn b c q = 0) (h1 : lt q b = false) (h2 : lt c q = false) : box q b c = true := by
  rw [← on_box l]
  show (decide (tn b c q = 0) && (!lt q b && !lt c q)) = true
  rw [decide_eq_true z, h1, h2]
  rfl
theorem box_neg (p a b : Pt) : box (neg p) (neg a) (neg b) = box p a b := by
  rw [Bool.eq_iff_iff, box_iff, box_iff, tn_neg]
  unfold neg
  dsimp only
  omega
theorem hull_edge {pl : List Pt} (asc : pl.Pairwise fun a b => lt a b = true) (two : 2 ≤ pl.length) {a t q : Pt} {j : Nat} (ha : ((chainS pl.reverse).reverse.dropLast ++ (chainS pl).reverse.dropLast)[j]? = some a)
    (ht : (((chainS pl.reverse).reverse.dropLast ++ (chainS pl).reverse.dropLast) ++ ((chainS pl.reverse).reverse.dropLast ++ (chainS pl).reverse.dropLast).take 1)[j + 1]? = some t) (hq : q ∈ pl) (z : tn a t q = 0) : box q a t = true := by
  have W := wrap_of asc two
  have C2 := chainS_ok (pl.map neg) (neg_asc asc)
  rw [chainS_neg] at C2
  obtain ⟨r, L, eh, least, _⟩ := W.least
  have mL : L ∈ pl := W.sub L (by rw [eh]; simp)
  obtain ⟨R, hR⟩ : ∃ R, pl.getLast? = some R := by
    cases e : pl.getLast? with
    | none => rw [List.getLast?_eq_none_iff.mp e] at two; simp at two
    | some R => exact ⟨R, rfl⟩
  have hL : pl.head? = some L := by
    cases pl with
    | nil => cases mL
    | cons x r' =>
      have h1 := least x (by simp)
      rcases List.mem_cons.mp mL with rfl | m
      · rfl
      · have h2 := (List.pairwise_cons.mp asc).1 L m
        rw [h1] at h2
        cases h2
  have lB : (chainS pl.reverse).reverse.getLast? = some R := by
    have C1 := chainS_ok pl.reverse (List.pairwise_reverse.mpr asc)
    rw [List.getLast?_reverse, C1.head, List.head?_reverse, hR]
  have lA : (chainS pl).reverse.getLast? = some L := by
    rw [List.getLast?_reverse]
    cases pl with
    | nil => cases hL
    | cons x r => exact hL
  have hA : (chainS pl).reverse.head? = some R := by
    rw [List.head?_reverse]
    have := C2.last
    rw [List.getLast?_map, List.getLast?_map, hR] at this
    cases e : (chainS pl).getLast? with
    | none => rw [e] at this; cases this
    | some x =>
      rw [e] at this
      injection this with this
      rw [neg_inj this]
  have lowE := fun u v a t e => lower asc (u := u) (v := v) (a := a) (t := t) e
  have uppE := fun u v a t e => upper asc (u := u) (v := v) (a := a) (t := t) e
  generalize (chainS pl.reverse).reverse = B at *
  generalize (chainS pl).reverse = A at *
  have eB : B = B.dropLast ++ [R] := by
    have ne : B ≠ [] := fun e => by rw [e] at lB; cases lB
    rw [List.getLast?_eq_some_getLast ne] at lB
    injection lB with lB
    conv => lhs; rw [← List.dropLast_concat_getLast ne, lB]
  have eA : A = A.dropLast ++ [L] := by
    have ne : A ≠ [] := fun e => by rw [e] at hA; cases hA
    rw [List.getLast?_eq_some_getLast ne] at lA
    injection lA with lA
    conv => lhs; rw [← List.dropLast_concat_getLast ne, lA]
  obtain ⟨A', hA'⟩ : ∃ A', A = R :: A' := by
    cases A with
    | nil => cases hA
    | cons x r => cases hA; exact ⟨r, rfl⟩
  have eP : (B.dropLast ++ A.dropLast) ++ (B.dropLast ++ A.dropLast).take 1 = B.dropLast ++ R :: A' := by
    rw [← hA']
    conv => rhs; rw [eA]
    rw [← List.append_assoc, eh]
    rfl
  have hj := (List.getElem?_eq_some_iff.mp ha).1
  obtain ⟨u, v, e⟩ := split_at (l := (B.dropLast ++ A.dropLast) ++ (B.dropLast ++ A.dropLast).take 1) (by rw [List.getElem?_append_left hj]; exact ha) ht
  rw [eP] at e
  rcases adj_split e with ⟨v', e1⟩ | ⟨u', e1⟩
  · rw [← eB] at e1
    obtain ⟨k1, k2, _⟩ := lowE u v' a t e1
    obtain ⟨z1, z2⟩ := (k1 q hq).2 z
    exact edge_box k2 z z1 z2
  · rw [← hA'] at e1
    obtain ⟨k1, k2⟩ := uppE u' v a t e1
    have k := k1 (neg q) (mem_neg.mpr hq)
    rw [tn_neg] at k
    obtain ⟨z1, z2⟩ := k.2 z
    rw [← box_neg]
    exact edge_box (by rw [lt_neg]; exact k2) (by rw [tn_neg]; exact z) z1 z2
theorem Wrap.box_ {S h : List Pt} (W : Wrap S h) (two : 2 ≤ h.length) {a t q : Pt} {j : Nat} (ha : h[j]? = some a) (ht : (h ++ h.take 1)[j + 1]? = some t) (hq : q ∈ S) (z : tn a t q = 0) : box q a t = true := by
  obtain ⟨pl, asc, e⟩ := in_order S
  match pl, asc, e with
  | [], _, e => exact absurd ((e q).mpr hq) (by simp)
  | [L], asc, e =>
    have := W.unique (wrap_one L) fun x => (e x).symm
    rw [this] at two
    exact absurd two (by simp)
  | L :: x :: r, asc, e =>
    have eh := W.unique (wrap_of asc (by simp)) fun x => (e x).symm
    subst eh
    exact hull_edge asc (by simp) ha ht ((e q).mpr hq) z
end My
namespace My
open PySem L2
/-! ## places of images: turned, mirrored, moved; of rows begun elsewhere, backwards -/
def placeL (p : Pt) (l : List Pt) : Str := if (loopE l).any (fun e => box p e.1 e.2) = true then "on" else if xsum (fun e => eastB p e.1 e.2) (loopE l) = true then "in" else "out"
theorem placeS_L (p : Pt) (zs : List Zp) : placeS p zs = placeL p (zs.map fun z => z.2) := by
  have e1 : onRing p zs = (loopE (zs.map fun z => z.2)).any fun e => box p e.1 e.2 := by
    rw [loop_range, List.any_map]
    rfl
  have e2 : decide (cntE p zs zs.length % 2 = 1) = xsum (fun e => eastB p e.1 e.2) (loopE (zs.map fun z => z.2)) := by rw [xsum_count, loop_range, ← cntE_count]
  unfold placeS placeL
  rw [e1]
  split
  · rfl
  · rw [← e2]
    by_cases q : cntE p zs zs.length % 2 = 1
    · rw [if_pos q, if_pos (decide_eq_true q)]
    · rw [if_neg q, if_neg (by rw [decide_eq_false q]; decide)]
theorem xsum_cons (g : Eg → Bool) (e : Eg) (r : List Eg) : xsum g (e :: r) = (g e ^^ xsum g r) := rfl
theorem xsum_one (g : Eg → Bool) (e : Eg) : xsum g [e] = g e := by show (g e ^^ false) = _; rw [Bool.xor_false]
theorem placeL_turned (p : Pt) (s t : List Pt) : placeL p (s ++ t) = placeL p (t ++ s) := by
  by_cases hs : s = []
  · subst hs; rw [List.append_nil]; rfl
  by_cases ht : t = []
  · subst ht; rw [List.append_nil]; rfl
  obtain ⟨s0, s1, a1, a2⟩ := ends_of hs
  obtain ⟨t0, t1, b1, b2⟩ := ends_of ht
  have x : xsum (fun e => eastB p e.1 e.2) (loopE (s ++ t)) = xsum (fun e => eastB p e.1 e.2) (loopE (t ++ s)) := by
    rw [loop_app a1 a2 b1 b2, loop_app b1 b2 a1 a2]
    simp only [xsum_app, xsum_cons, xsum_one]
    generalize xsum _ (path s) = u1
    generalize xsum _ (path t) = u2
    generalize eastB p s1 t0 = u3
    generalize eastB p t1 s0 = u4
    cases u1 <;> cases u2 <;> cases u3 <;> cases u4 <;> rfl
  have y : (loopE (s ++ t)).any (fun e => box p e.1 e.2) = (loopE (t ++ s)).any fun e => box p e.1 e.2 := by
    have m := (loop_rot hs ht).2
    rw [Bool.eq_iff_iff, List.any_eq_true, List.any_eq_true]
    exact ⟨fun ⟨e, h, g⟩ => ⟨e, (m e).mp h, g⟩, fun ⟨e, h, g⟩ => ⟨e, (m e).mpr h, g⟩⟩
  unfold placeL
  rw [x, y]
def swp (e : Eg) : Eg := (e.2, e.1)
theorem path_back : ∀ l : List Pt, path l.reverse = ((path l).map swp).reverse
  | [] => rfl
  | [_] => rfl
  | x :: y :: r => by
    have ih := path_back (y :: r)
    have h1 : (y :: r).reverse.getLast? = some y := by rw [List.getLast?_reverse]; rfl
    rw [List.reverse_cons, path_app _ [x] y x h1 rfl, ih]
    show _ = (((x, y) :: path (y :: r)).map swp).reverse
    rw [List.map_cons, List.reverse_cons]
    rfl
theorem xsum_rev (g : Eg → Bool) : ∀ E : List Eg, xsum g E.reverse = xsum g E
  | [] => rfl
  | e :: r => by
    rw [List.reverse_cons, xsum_app, xsum_rev g r, xsum_one, xsum_cons, Bool.xor_comm]
theorem placeL_back (p : Pt) (l : List Pt) : placeL p l.reverse = placeL p l := by
  by_cases hl : l = []
  · subst hl; rfl
  obtain ⟨b, a, hb, ha⟩ := ends_of hl
  have hb' : l.reverse.head? = some a := by rw [List.head?_reverse]; exact ha
  have ha' : l.reverse.getLast? = some b := by rw [List.getLast?_reverse]; exact hb
  have e1 : loopE l.reverse = ((path l).map swp).reverse ++ [(b, a)] := by rw [loop_eq hb' ha', path_back]
  have e2 : loopE l = path l ++ [(a, b)] := loop_eq hb ha
  have x : xsum (fun e => eastB p e.1 e.2) (loopE l.reverse) = xsum (fun e => eastB p e.1 e.2) (loopE l) := by
    rw [e1, e2, xsum_app, xsum_app, xsum_rev, xsum_map, xsum_one, xsum_one]
    congr 1
    · exact xsum_congr fun e _ => east_sym p e.1 e.2
    · exact east_sym p a b
  have y : (loopE l.reverse).any (fun e => box p e.1 e.2) = (loopE l).any fun e => box p e.1 e.2 := by
    rw [e1, e2, List.any_append, List.any_append, List.any_reverse, List.any_map]
    congr 1
    · have f : ((fun e : Eg => box p e.1 e.2) ∘ swp) = fun e : Eg => box p e.1 e.2 := funext fun e => box_swap p e.1 e.2
      rw [f]
    · show (box p b a || false) = (box p a b || false)
      rw [box_swap]
  unfold placeL
  rw [x, y]
theorem Made.place {zs ws : List Zp} (m : Made zs ws) (p : Pt) : placeS p ws = placeS p zs := by
  obtain ⟨ys, j, z, e1, h1, h2, h3, rfl⟩ := m.ex
  rw [placeS_L, placeS_L, List.map_append, placeL_turned, ← List.map_append, List.take_append_drop, e1]
  split
  · rw [List.map_reverse, placeL_back]
  · rfl
/-! ### mirrored -/
def mirr (p : Pt) : Pt := (0 - p.1, p.2)
theorem tn_mirr (a b c : Pt) : tn (mirr a) (mirr b) (mirr c) = 0 - tn a b c := by unfold tn turnI mirr; grind
theorem box_mirr (p a b : Pt) : box (mirr p) (mirr a) (mirr b) = box p a b := by
  rw [Bool.eq_iff_iff, box_iff, box_iff, tn_mirr]
  unfold mirr
  dsimp only
  omega
theorem level_on {p u w : Pt} (h1 : u.2 ≤ p.2) (h2 : p.2 < w.2) (z : tn u w p = 0) : box p u w = true := by
  have e : (w.2 - u.2) * (p.1 - u.1) = (w.1 - u.1) * (p.2 - u.2) := by unfold tn turnI at z; omega
  have d0 : 0 < w.2 - u.2 := by omega
  refine box_iff.mpr ⟨z, ?_, .inl ⟨h1, by omega⟩⟩
  rcases int_or w.1 u.1 with q | q
  · refine .inr ?_
    have a1 := Int.mul_nonneg (show 0 ≤ u.1 - w.1 by omega) (show 0 ≤ p.2 - u.2 by omega)
    have a2 := Int.mul_nonneg (show 0 ≤ u.1 - w.1 by omega) (show 0 ≤ w.2 - p.2 by omega)
    have b1 : (w.2 - u.2) * (u.1 - p.1) = (u.1 - w.1) * (p.2 - u.2) := by grind
    have b2 : (w.2 - u.2) * (p.1 - w.1) = (u.1 - w.1) * (w.2 - p.2) := by grind
    have c1 := nonneg_of_mul d0 (show 0 ≤ (w.2 - u.2) * (u.1 - p.1) by omega)
    have c2 := nonneg_of_mul d0 (show 0 ≤ (w.2 - u.2) * (p.1 - w.1) by omega)
    omega
  · refine .inl ?_
    have a1 := Int.mul_nonneg (show 0 ≤ w.1 - u.1 by omega) (show 0 ≤ p.2 - u.2 by omega)
    have a2 := Int.mul_nonneg (show 0 ≤ w.1 - u.1 by omega) (show 0 ≤ w.2 - p.2 by omega)
    have b2 : (w.2 - u.2) * (w.1 - p.1) = (w.1 - u.1) * (w.2 - p.2) := by grind
    have c1 := nonneg_of_mul d0 (show 0 ≤ (w.2 - u.2) * (p.1 - u.1) by omega)
    have c2 := nonneg_of_mul d0 (show 0 ≤ (w.2 - u.2) * (w.1 - p.1) by omega)
    omega
theorem mir {p u w : Pt} (n : box p u w = false) : (eastB p u w ^^ eastB (mirr p) (mirr u) (mirr w)) = (decide (u.2 ≤ p.2) ^^ decide (w.2 ≤ p.2)) := by
  have up : ∀ u w : Pt, box p u w = false → u.2 ≤ p.2 → p.2 < w.2 → (eastB p u w ^^ eastB (mirr p) (mirr u) (mirr w)) = true := fun u w n h1 h2 => by
    have nz : tn u w p ≠ 0 := fun z => by rw [level_on h1 h2 z] at n; cases n
    rw [east_up h1 h2, east_up (show (mirr u).2 ≤ (mirr p).2 from h1) (show (mirr p).2 < (mirr w).2 from h2), tn_mirr]
    by_cases q : 0 < tn u w p
    · rw [decide_eq_true q, decide_eq_false (by omega)]; rfl
    · rw [decide_eq_false q, decide_eq_true (by omega)]; rfl
  by_cases a : u.2 ≤ p.2 <;> by_cases b : w.2 ≤ p.2
  · rw [east_no (.inl ⟨a, b⟩), east_no (p := mirr p) (a := mirr u) (b := mirr w) (.inl ⟨a, b⟩), decide_eq_true a, decide_eq_true b]; rfl
  · rw [up u w n a (by omega), decide_eq_true a, decide_eq_false b]; rfl
  · rw [east_sym p w u, east_sym (mirr p) (mirr w) (mirr u), up w u (by rw [box_swap]; exact n) b (by omega), decide_eq_false a, decide_eq_true b]; rfl
  · rw [east_no (.inr ⟨by omega, by omega⟩), east_no (p := mirr p) (a := mirr u) (b := mirr w) (.inr ⟨by show p.2 < u.2; omega, by show p.2 < w.2; omega⟩), decide_eq_false a, decide_eq_false b]
/-- a map of the plane that leaves places as they are -/
def Keeps (f : Pt → Pt) : Prop := ∀ (p : Pt) (l : List Pt), placeL (f p) (l.map f) = placeL p l
theorem any_map2 {f : Pt → Pt} (hb : ∀ p a b, box (f p) (f a) (f b) = box p a b) (p : Pt) (l : List Pt) : (loopE (l.map f)).any (fun e => box (f p) e.1 e.2) = (loopE l).any fun e => box p e.1 e.2 := by
  rw [loop_map, List.any_map]
  have e : ((fun e : Eg => box (f p) e.1 e.2) ∘ map2 f) = fun e : Eg => box p e.1 e.2 := funext fun e => hb p e.1 e.2
  rw [e]
theorem keeps_of {f : Pt → Pt} (hb : ∀ p a b, box (f p) (f a) (f b) = box p a b) (hx : ∀ (p : Pt) (l : List Pt), (∀ e ∈ loopE l, box p e.1 e.2 = false) → xsum (fun e => eastB (f p) e.1 e.2) (loopE (l.map f)) = xsum (fun e => eastB p e.1 e.2) (loopE l)) : Keeps f := fun p l => by
  unfold placeL
  rw [any_map2 hb]
  split
  · rfl
  · rename_i h
    rw [hx p l fun e he => Bool.eq_false_iff.mpr fun z => h (List.any_eq_true.mpr ⟨e, he, z⟩)]
theorem keeps_quart : Keeps quart := keeps_of box_quart fun p l n => qua_parity n
theorem keeps_mirr : Keeps mirr := keeps_of box_mirr fun p l n => by
  rw [loop_map, xsum_map]
  have h : xsum (fun e => eastB p e.1 e.2 ^^ eastB (mirr p) (map2 mirr e).1 (map2 mirr e).2) (loopE l) = false := (xsum_congr (h := fun e => decide (e.1.2 ≤ p.2) ^^ decide (e.2.2 ≤ p.2)) fun e he => mir (n e he)).trans (xsum_loop (fun x => decide (x.2 ≤ p.2)) l)
  rw [xsum_xor] at h
  show xsum (fun e => eastB (mirr p) (map2 mirr e).1 (map2 mirr e).2) (loopE l) = _
  revert h
  generalize xsum (fun e => eastB p e.1 e.2) (loopE l) = x
  generalize xsum (fun e => eastB (mirr p) (map2 mirr e).1 (map2 mirr e).2) (loopE l) = y
  cases x <;> cases y <;> simp
def shft (d e : Int) (p : Pt) : Pt := (p.1 + d, p.2 + e)
theorem tn_shft (d e : Int) (a b c : Pt) : tn (shft d e a) (shft d e b) (shft d e c) = tn a b c := by unfold tn turnI shft; grind
theorem box_shft (d e : Int) (p a b : Pt) : box (shft d e p) (shft d e a) (shft d e b) = box p a b := by
  rw [Bool.eq_iff_iff, box_iff, box_iff, tn_shft]
  unfold shft
  dsimp only
  omega
theorem east_shft (d e : Int) (p a b : Pt) : eastB (shft d e p) (shft d e a) (shft d e b) = eastB p a b := by
  have l : ((shft d e a).2 < (shft d e b).2) = (a.2 < b.2) := propext ⟨fun h => by have h : a.2 + e < b.2 + e := h; omega, fun h => by show a.2 + e < b.2 + e; omega⟩
  have c : ∀ x y : Pt, decide ((shft d e x).2 ≤ (shft d e y).2) = decide (x.2 ≤ y.2) := fun x y => decide_eq_decide.mpr (by unfold shft; dsimp only; omega)
  have c2 : ∀ x y : Pt, decide ((shft d e x).2 < (shft d e y).2) = decide (x.2 < y.2) := fun x y => decide_eq_decide.mpr (by unfold shft; dsimp only; omega)
  unfold eastB
  simp only [c, c2, tn_shft]
  by_cases q : a.2 < b.2
  · rw [if_pos q, if_pos (by rw [l]; exact q)]
  · rw [if_neg q, if_neg (by rw [l]; exact q)]
theorem keeps_shft (d e : Int) : Keeps (shft d e) := keeps_of (box_shft d e) fun p l _ => by
  rw [loop_map, xsum_map]
  exact xsum_congr fun x _ => east_shft d e p x.1 x.2
theorem Keeps.comp {f g : Pt → Pt} (hf : Keeps f) (hg : Keeps g) : Keeps (g ∘ f) := fun p l => by
  show placeL (g (f p)) (l.map (g ∘ f)) = _
  rw [← List.map_map, hg, hf]
end My
namespace My
open PySem L2
/-! ## meetings of images -/
structure Iso (f : Pt → Pt) : Prop where
  tn : ∃ σ : Int, (σ = 1 ∨ σ = -1) ∧ ∀ a b c, My.tn (f a) (f b) (f c) = σ * My.tn a b c
  box : ∀ p a b, My.box (f p) (f a) (f b) = My.box p a b
  inj : ∀ {a b}, f a = f b → a = b
theorem iso_quart : Iso quart := ⟨⟨1, .inl rfl, fun a b c => by rw [tn_quart, Int.one_mul]⟩, box_quart, fun {a b} h => by
  unfold quart at h
  injection h with h1 h2
  exact pt_eq h2 (by omega)⟩
theorem iso_mirr : Iso mirr := ⟨⟨-1, .inr rfl, fun a b c => by rw [tn_mirr]; omega⟩, box_mirr, fun {a b} h => by
  unfold mirr at h
  injection h with h1 h2
  exact pt_eq (by omega) h2⟩
theorem iso_shft (d e : Int) : Iso (shft d e) := ⟨⟨1, .inl rfl, fun a b c => by rw [tn_shft, Int.one_mul]⟩, box_shft d e, fun {a b} h => by
  unfold shft at h
  injection h with h1 h2
  exact pt_eq (by omega) (by omega)⟩
theorem iso_id : Iso id := ⟨⟨1, .inl rfl, fun a b c => by rw [Int.one_mul]; rfl⟩, fun _ _ _ => rfl, id⟩
theorem Iso.comp {f g : Pt → Pt} (hf : Iso f) (hg : Iso g) : Iso (g ∘ f) := by
  obtain ⟨s, hs, h1⟩ := hf.tn
  obtain ⟨r, hr, h2⟩ := hg.tn
  refine ⟨⟨r * s, ?_, fun a b c => ?_⟩, fun p a b => ?_, fun h => hf.inj (hg.inj h)⟩
  · rcases hs with rfl | rfl <;> rcases hr with rfl | rfl <;> simp
  · show My.tn (g (f a)) (g (f b)) (g (f c)) = _
    rw [h2, h1, Int.mul_assoc]
  · show My.box (g (f p)) (g (f a)) (g (f b)) = _
    rw [hg.box, hf.box]
section
variable {f : Pt → Pt} (I : Iso f) {a b c d : Pt}
include I
theorem Iso.apart : Apart2 (f a) (f b) (f c) (f d) ↔ Apart2 a b c d := by
  obtain ⟨s, hs, h⟩ := I.tn
  unfold Apart2
  simp only [I.box, h]
  have e : ∀ x y : Int, s * x * (s * y) = x * y := fun x y => by
    rcases hs with rfl | rfl
    · rw [Int.one_mul, Int.one_mul]
    · grind
  simp only [e]
theorem Iso.ne (h : a ≠ b) : f a ≠ f b := fun e => h (I.inj e)
end
theorem ord_mem (a b x : Pt) : (x = (ord a b).1 ∨ x = (ord a b).2) ↔ (x = a ∨ x = b) := by
  rcases ord_or a b with e | e <;> rw [e]
  exact ⟨fun h => h.symm, fun h => h.symm⟩
theorem box_ord_ (p a b : Pt) : box p (ord a b).1 (ord a b).2 = box p a b := by
  rcases ord_or a b with e | e <;> rw [e]
  exact box_swap ..
theorem mem_ends_box {a b c d x : Pt} (hab : lt a b = true) (hcd : lt c d = true) : x ∈ ends a b c d ↔ ((x = a ∨ x = b) ∧ box x c d = true) ∨ ((x = c ∨ x = d) ∧ box x a b = true) := by
  rw [mem_ends, on_box hcd, on_box hcd, on_box hab, on_box hab]
  constructor
  · rintro (⟨rfl, h⟩ | ⟨rfl, h⟩ | ⟨rfl, h⟩ | ⟨rfl, h⟩)
    · exact .inl ⟨.inl rfl, h⟩
    · exact .inl ⟨.inr rfl, h⟩
    · exact .inr ⟨.inl rfl, h⟩
    · exact .inr ⟨.inr rfl, h⟩
  · rintro (⟨rfl | rfl, h⟩ | ⟨rfl | rfl, h⟩)
    · exact .inl ⟨rfl, h⟩
    · exact .inr (.inl ⟨rfl, h⟩)
    · exact .inr (.inr (.inl ⟨rfl, h⟩))
    · exact .inr (.inr (.inr ⟨rfl, h⟩))
theorem Iso.ends {f : Pt → Pt} (I : Iso f) {a b c d : Pt} (hab : lt a b = true) (hcd : lt c d = true) (y : Pt) : y ∈ My.ends (ord (f a) (f b)).1 (ord (f a) (f b)).2 (ord (f c) (f d)).1 (ord (f c) (f d)).2 ↔ ∃ x ∈ My.ends a b c d, y = f x := by
  have nab : a ≠ b := fun e => by rw [e, lt_irr] at hab; cases hab
  have ncd : c ≠ d := fun e => by rw [e, lt_irr] at hcd; cases hcd
  rw [mem_ends_box (ord_lt (I.ne nab)) (ord_lt (I.ne ncd)), ord_mem, ord_mem, box_ord_, box_ord_]
  constructor
  · rintro (⟨rfl | rfl, h⟩ | ⟨rfl | rfl, h⟩) <;> rw [I.box] at h
    · exact ⟨a, (mem_ends_box hab hcd).mpr (.inl ⟨.inl rfl, h⟩), rfl⟩
    · exact ⟨b, (mem_ends_box hab hcd).mpr (.inl ⟨.inr rfl, h⟩), rfl⟩
    · exact ⟨c, (mem_ends_box hab hcd).mpr (.inr ⟨.inl rfl, h⟩), rfl⟩
    · exact ⟨d, (mem_ends_box hab hcd).mpr (.inr ⟨.inr rfl, h⟩), rfl⟩
  · rintro ⟨x, hx, rfl⟩
    rw [I.box, I.box]
    rcases (mem_ends_box hab hcd).mp hx with ⟨rfl | rfl, h⟩ | ⟨rfl | rfl, h⟩
    · exact .inl ⟨.inl rfl, h⟩
    · exact .inl ⟨.inr rfl, h⟩
    · exact .inr ⟨.inl rfl, h⟩
    · exact .inr ⟨.inr rfl, h⟩
/-! ### what an answer says -/
theorem meet_cases {a b c d : Pt} (hab : lt a b = true) (hcd : lt c d = true) : (meetM a b c d = .none ∧ Apart2 a b c d) ∨ (∃ P, meetM a b c d = .touch P ∧ P ∈ ends a b c d ∧ ∀ q ∈ ends a b c d, q = P) ∨
    (∃ P R, meetM a b c d = .over P R ∧ P ∈ ends a b c d ∧ R ∈ ends a b c d ∧ lt P R = true ∧ ∀ r ∈ ends a b c d, lt r P = false ∧ lt R r = false) ∨
    (ends a b c d = [] ∧ tn a b c * tn a b d < 0 ∧ tn c d a * tn c d b < 0 ∧ meetM a b c d = cross a b (tn c d a) (tn c d b)) := by
  have M := meet_right hab hcd
  by_cases en : ends a b c d = []
  · by_cases q : tn a b c * tn a b d < 0 ∧ tn c d a * tn c d b < 0
    · exact .inr (.inr (.inr ⟨en, q.1, q.2, M.cross_ en q.1 q.2⟩))
    · have e := M.none_ en (by omega)
      exact .inl ⟨e, (none_iff hab hcd).mp e⟩
  · obtain ⟨p, hp, hl⟩ := least_of _ en
    obtain ⟨q, hq, hg⟩ := greatest_of _ en
    by_cases pq : p = q
    · subst pq
      have all := fun r hr => lt_tri (hl r hr) (hg r hr)
      exact .inr (.inl ⟨p, M.touch_ p hp all, hp, all⟩)
    · refine .inr (.inr (.inl ⟨p, q, M.over_ p q hp hq pq fun r hr => ⟨hl r hr, hg r hr⟩, hp, hq, ?_, fun r hr => ⟨hl r hr, hg r hr⟩⟩))
      cases e : lt p q with
      | true => rfl
      | false => exact absurd (lt_tri e (hl q hq)) pq
/-! ### exact points of images -/
theorem cross_swap (a b : Pt) {be af : Int} (h : be - af ≠ 0) : cross b a af be = cross a b be af := by
  have h2 : af - be ≠ 0 := by omega
  have u1 := low_unique (low_ok (n := cutN b.1 a.1 af be) h2) (low_ok (n := cutN a.1 b.1 be af) h) h2 h (by unfold cutN; grind)
  have u2 := low_unique (low_ok (n := cutN b.2 a.2 af be) h2) (low_ok (n := cutN a.2 b.2 be af) h) h2 h (by unfold cutN; grind)
  unfold cross
  rw [u1.1, u1.2, u2.1, u2.2]
theorem cross_neg (a b : Pt) {be af : Int} (h : be - af ≠ 0) : cross a b (-be) (-af) = cross a b be af := by
  have h2 : -be - -af ≠ 0 := by omega
  have u1 := low_unique (low_ok (n := cutN a.1 b.1 (-be) (-af)) h2) (low_ok (n := cutN a.1 b.1 be af) h) h2 h (by unfold cutN; grind)
  have u2 := low_unique (low_ok (n := cutN a.2 b.2 (-be) (-af)) h2) (low_ok (n := cutN a.2 b.2 be af) h) h2 h (by unfold cutN; grind)
  unfold cross
  rw [u1.1, u1.2, u2.1, u2.2]
abbrev Fr := Int × Int
def crossmap (g : Fr × Fr → Fr × Fr) : Mt → Mt
  | .cross x y => .cross (g (x, y)).1 (g (x, y)).2
  | m => m
/-- the map of exact points that goes with a map of points -/
def Exact (f : Pt → Pt) (g : Fr × Fr → Fr × Fr) : Prop := ∀ a b be af, be - af ≠ 0 → cross (f a) (f b) be af = crossmap g (cross a b be af)
theorem low_neg {n d : Int} (h : d ≠ 0) : lowN (-n) d = 0 - lowN n d ∧ lowD (-n) d = lowD n d := by
  have L := low_ok (n := n) h
  obtain ⟨⟨g, hg, e1, e2⟩, p, o⟩ := L
  exact low_unique (low_ok (n := -n) h) ⟨⟨g, hg, by rw [e1]; grind, e2⟩, p, by rw [show (0 - lowN n d).natAbs = (lowN n d).natAbs by omega]; exact o⟩ h h rfl
def exQ (z : Fr × Fr) : Fr × Fr := ((0 - z.2.1, z.2.2), z.1)
def exM (z : Fr × Fr) : Fr × Fr := ((0 - z.1.1, z.1.2), z.2)
def exS (d e : Int) (z : Fr × Fr) : Fr × Fr := ((lowN (z.1.1 * 1 + d * z.1.2) (z.1.2 * 1), lowD (z.1.1 * 1 + d * z.1.2) (z.1.2 * 1)), (lowN (z.2.1 * 1 + e * z.2.2) (z.2.2 * 1), lowD (z.2.1 * 1 + e * z.2.2) (z.2.2 * 1)))
theorem exact_quart : Exact quart exQ := fun a b be af h => by
  have e : cutN (quart a).1 (quart b).1 be af = -cutN a.2 b.2 be af := by unfold cutN quart; grind
  have l := low_neg (n := cutN a.2 b.2 be af) h
  unfold cross
  rw [e, l.1, l.2]
  rfl
theorem exact_mirr : Exact mirr exM := fun a b be af h => by
  have e : cutN (mirr a).1 (mirr b).1 be af = -cutN a.1 b.1 be af := by unfold cutN mirr; grind
  have l := low_neg (n := cutN a.1 b.1 be af) h
  unfold cross
  rw [e, l.1, l.2]
  rfl
theorem low_shift {n w d : Int} (h : w ≠ 0) : lowN (n + d * w) w = lowN (lowN n w * 1 + d * lowD n w) (lowD n w * 1) ∧ lowD (n + d * w) w = lowD (lowN n w * 1 + d * lowD n w) (lowD n w * 1) := by
  have L := low_ok (n := n) h
  have p := L.pos
  obtain ⟨⟨g, hg, e1, e2⟩, _, _⟩ := L
  refine low_unique (low_ok (n := n + d * w) h) (low_ok (n := lowN n w * 1 + d * lowD n w) (show lowD n w * 1 ≠ 0 by omega)) h (by omega) ?_
  generalize lowN n w = N at *
  generalize lowD n w = D at *
  rw [e1, e2]
  grind
theorem exact_shft (d e : Int) : Exact (shft d e) (exS d e) := fun a b be af h => by
  have e1 : cutN (shft d e a).1 (shft d e b).1 be af = cutN a.1 b.1 be af + d * (be - af) := by unfold cutN shft; grind
  have e2 : cutN (shft d e a).2 (shft d e b).2 be af = cutN a.2 b.2 be af + e * (be - af) := by unfold cutN shft; grind
  have l1 := low_shift (n := cutN a.1 b.1 be af) (d := d) h
  have l2 := low_shift (n := cutN a.2 b.2 be af) (d := e) h
  unfold cross
  rw [e1, e2, l1.1, l1.2, l2.1, l2.2]
  rfl
theorem crossmap_comp (g k : Fr × Fr → Fr × Fr) : ∀ m : Mt, crossmap k (crossmap g m) = crossmap (k ∘ g) m
  | .none => rfl
  | .touch _ => rfl
  | .over _ _ => rfl
  | .cross _ _ => rfl
theorem Exact.comp {f f' : Pt → Pt} {g g' : Fr × Fr → Fr × Fr} (h : Exact f g) (h' : Exact f' g') : Exact (f' ∘ f) (g' ∘ g) := fun a b be af n => by
  show cross (f' (f a)) (f' (f b)) be af = _
  rw [h' _ _ _ _ n, h _ _ _ _ n, crossmap_comp]
theorem exact_id : Exact id id := fun a b be af _ => by unfold cross; rfl
theorem col3 {a b p q r : Pt} (n : a ≠ b) (h1 : tn a b p = 0) (h2 : tn a b q = 0) (h3 : tn a b r = 0) : tn p q r = 0 := by
  have e1 : cx2 (way p q) (way a b) = 0 := by
    have : cx2 (way p q) (way a b) = tn a b p - tn a b q := by unfold tn turnI cx2 way; grind
    omega
  have e2 : cx2 (way a b) (way p r) = 0 := by
    have : cx2 (way a b) (way p r) = tn a b r - tn a b p := by unfold tn turnI cx2 way; grind
    omega
  have e3 : tn p q r = cx2 (way p q) (way p r) := by unfold tn turnI cx2 way; grind
  have i1 := crs3 (way p q) (way a b) (way p r)
  have i2 : (way a b).2 * cx2 (way p q) (way p r) = (way p r).2 * cx2 (way p q) (way a b) + (way p q).2 * cx2 (way a b) (way p r) := by unfold cx2; grind
  rw [e1, e2, Int.mul_zero, Int.mul_zero] at i1 i2
  rw [e3]
  rcases Int.mul_eq_zero.mp i1 with z | z
  · rcases Int.mul_eq_zero.mp i2 with z2 | z2
    · exact absurd (pt_eq (by unfold way at z; dsimp only at z; omega) (by unfold way at z2; dsimp only at z2; omega)) n
    · exact z2
  · exact z
/-- the meeting of the images, told by the meeting -/
def imgM (f : Pt → Pt) (g : Fr × Fr → Fr × Fr) : Mt → Mt
  | .none => .none
  | .touch P => .touch (f P)
  | .over P R => .over (ord (f P) (f R)).1 (ord (f P) (f R)).2
  | .cross x y => .cross (g (x, y)).1 (g (x, y)).2
theorem meet_image {f : Pt → Pt} {g : Fr × Fr → Fr × Fr} (I : Iso f) (E : Exact f g) {a b c d : Pt} (hab : lt a b = true) (hcd : lt c d = true) : mt2 (f a) (f b) (f c) (f d) = imgM f g (meetM a b c d) := by
  have nab : a ≠ b := fun e => by rw [e, lt_irr] at hab; cases hab
  have ncd : c ≠ d := fun e => by rw [e, lt_irr] at hcd; cases hcd
  have l1 := ord_lt (I.ne nab)
  have l2 := ord_lt (I.ne ncd)
  have M := meet_right l1 l2
  have En := I.ends hab hcd
  rcases meet_cases hab hcd with ⟨e, ap⟩ | ⟨P, e, hP, all⟩ | ⟨P, R, e, hP, hR, hlt, all⟩ | ⟨en, s1, s2, e⟩
  · rw [e]
    exact (mt2_none (I.ne nab) (I.ne ncd)).mpr (I.apart.mpr ap)
  · rw [e]
    refine M.touch_ (f P) ((En _).mpr ⟨P, hP, rfl⟩) fun q hq => ?_
    obtain ⟨x, hx, rfl⟩ := (En q).mp hq
    rw [all x hx]
  · rw [e]
    have nPR : P ≠ R := fun e => by rw [e, lt_irr] at hlt; cases hlt
    have lo := ord_lt (I.ne nPR)
    have line : ∀ x ∈ ends a b c d, tn a b x = 0 := fun x hx => by
      have h := (ends_on hab hcd hx).1
      rw [on_box hab] at h
      exact (box_iff.mp h).1
    have two : ∀ x, x = P ∨ x = R → f x ∈ ends (ord (f a) (f b)).1 (ord (f a) (f b)).2 (ord (f c) (f d)).1 (ord (f c) (f d)).2 := fun x hx => (En _).mpr ⟨x, by rcases hx with rfl | rfl <;> assumption, rfl⟩
    have mem : ∀ y, y = (ord (f P) (f R)).1 ∨ y = (ord (f P) (f R)).2 → y ∈ ends (ord (f a) (f b)).1 (ord (f a) (f b)).2 (ord (f c) (f d)).1 (ord (f c) (f d)).2 := fun y hy => by
      rcases (ord_mem _ _ y).mp hy with rfl | rfl
      · exact two P (.inl rfl)
      · exact two R (.inr rfl)
    refine M.over_ _ _ (mem _ (.inl rfl)) (mem _ (.inr rfl)) (fun z => by rw [z, lt_irr] at lo; cases lo) fun q hq => ?_
    obtain ⟨x, hx, rfl⟩ := (En q).mp hq
    obtain ⟨z1, z2⟩ := all x hx
    have z := col3 nab (line P hP) (line R hR) (line x hx)
    have bx : box x P R = true := by
      rw [← on_box hlt]
      show (decide (tn P R x = 0) && (!lt x P && !lt R x)) = true
      rw [decide_eq_true z, z1, z2]
      rfl
    rw [← I.box, ← box_ord_, ← on_box lo] at bx
    have bx : (decide (tn (ord (f P) (f R)).1 (ord (f P) (f R)).2 (f x) = 0) && (!lt (f x) (ord (f P) (f R)).1 && !lt (ord (f P) (f R)).2 (f x))) = true := bx
    rw [Bool.and_eq_true, Bool.and_eq_true] at bx
    exact ⟨by simpa using bx.2.1, by simpa using bx.2.2⟩
  · have en2 : ends (ord (f a) (f b)).1 (ord (f a) (f b)).2 (ord (f c) (f d)).1 (ord (f c) (f d)).2 = [] := by
      cases q : ends (ord (f a) (f b)).1 (ord (f a) (f b)).2 (ord (f c) (f d)).1 (ord (f c) (f d)).2 with
      | nil => rfl
      | cons y r =>
        obtain ⟨x, hx, _⟩ := (En y).mp (by rw [q]; simp)
        rw [en] at hx
        cases hx
    obtain ⟨s, hs, ht⟩ := I.tn
    have nw : tn c d a - tn c d b ≠ 0 := by
      have := neg_signs s2
      omega
    have sgn2 : ∀ x y : Int, s * x * (s * y) = x * y := fun x y => by
      rcases hs with rfl | rfl
      · rw [Int.one_mul, Int.one_mul]
      · grind
    -- the turns with the ends in their order
    have T1 : tn (ord (f a) (f b)).1 (ord (f a) (f b)).2 (ord (f c) (f d)).1 * tn (ord (f a) (f b)).1 (ord (f a) (f b)).2 (ord (f c) (f d)).2 < 0 := by
      rcases ord_or (f a) (f b) with o | o <;> rcases ord_or (f c) (f d) with o2 | o2 <;> rw [o, o2] <;> dsimp only
      · rw [ht, ht, sgn2]; exact s1
      · rw [ht, ht, sgn2, Int.mul_comm]; exact s1
      · rw [tn_flip, tn_flip (f a), ht, ht]; have := sgn2 (tn a b c) (tn a b d); grind
      · rw [tn_flip, tn_flip (f a), ht, ht]; have := sgn2 (tn a b c) (tn a b d); grind
    have T2 : tn (ord (f c) (f d)).1 (ord (f c) (f d)).2 (ord (f a) (f b)).1 * tn (ord (f c) (f d)).1 (ord (f c) (f d)).2 (ord (f a) (f b)).2 < 0 := by
      rcases ord_or (f a) (f b) with o | o <;> rcases ord_or (f c) (f d) with o2 | o2 <;> rw [o, o2] <;> dsimp only
      · rw [ht, ht, sgn2]; exact s2
      · rw [tn_flip, tn_flip (f c), ht, ht]; have := sgn2 (tn c d a) (tn c d b); grind
      · rw [ht, ht, sgn2, Int.mul_comm]; exact s2
      · rw [tn_flip, tn_flip (f c), ht, ht]; have := sgn2 (tn c d a) (tn c d b); grind
    have X : cross (ord (f a) (f b)).1 (ord (f a) (f b)).2 (tn (ord (f c) (f d)).1 (ord (f c) (f d)).2 (ord (f a) (f b)).1) (tn (ord (f c) (f d)).1 (ord (f c) (f d)).2 (ord (f a) (f b)).2) = cross (f a) (f b) (tn c d a) (tn c d b) := by
      have sig : ∀ r : Int, (r = 1 ∨ r = -1) → cross (f a) (f b) (r * tn c d a) (r * tn c d b) = cross (f a) (f b) (tn c d a) (tn c d b) := fun r hr => by
        rcases hr with rfl | rfl
        · rw [Int.one_mul, Int.one_mul]
        · rw [show -1 * tn c d a = -tn c d a by omega, show -1 * tn c d b = -tn c d b by omega]
          exact cross_neg _ _ nw
      have nz : ∀ r : Int, (r = 1 ∨ r = -1) → r * tn c d a - r * tn c d b ≠ 0 := fun r hr => by rcases hr with rfl | rfl <;> omega
      have fl : ∀ x, 0 - s * x = -s * x := fun x => by grind
      have hs' : -s = 1 ∨ -s = -1 := by omega
      rcases ord_or (f a) (f b) with o | o <;> rcases ord_or (f c) (f d) with o2 | o2 <;> rw [o, o2] <;> dsimp only
      · rw [ht, ht]; exact sig s hs
      · rw [tn_flip, tn_flip (f c), ht, ht, fl, fl]; exact sig (-s) hs'
      · rw [ht, ht, cross_swap (f a) (f b) (nz s hs)]; exact sig s hs
      · rw [tn_flip, tn_flip (f c), ht, ht, fl, fl, cross_swap (f a) (f b) (nz (-s) hs')]; exact sig (-s) hs'
    have r1 := M.cross_ en2 T1 T2
    rw [X, E _ _ _ _ nw, ← e] at r1
    refine r1.trans ?_
    rw [e]
    rfl
end My
namespace My
open PySem L2
/-! ## hulls of images: the images of the corners -/
theorem head_take (h : List Pt) : h.head?.toList = h.take 1 := by cases h <;> rfl
/-- the edges of a hull -/
structure HullE (S h : List Pt) : Prop where
  two : 2 ≤ h.length
  nd : h.Nodup
  sub : ∀ x ∈ h, x ∈ S
  few : h.length ≤ S.length
  ge : ∀ e ∈ loopE h, ∀ q ∈ S, 0 ≤ tn e.1 e.2 q ∧ (tn e.1 e.2 q = 0 → box q e.1 e.2 = true)
  ne : ∀ e ∈ loopE h, e.1 ≠ e.2
theorem loop_at {h : List Pt} {e : Eg} (he : e ∈ loopE h) : ∃ j, h[j]? = some e.1 ∧ (h ++ h.take 1)[j + 1]? = some e.2 := by
  unfold loopE at he
  rw [head_take] at he
  obtain ⟨j, hj⟩ := List.mem_iff_getElem?.mp he
  rw [path_at] at hj
  cases e1 : (h ++ h.take 1)[j + 1]? with
  | none => rw [e1] at hj; cases hj
  | some y =>
    cases e2 : (h ++ h.take 1)[j]? with
    | none => rw [e1, e2] at hj; cases hj
    | some x =>
      rw [e1, e2] at hj
      injection hj with hj
      subst hj
      have hl := (List.getElem?_eq_some_iff.mp e1).1
      rw [List.length_append, List.length_take] at hl
      refine ⟨j, ?_, e1⟩
      rw [List.getElem?_append_left (by omega)] at e2
      exact e2
theorem at_loop {h : List Pt} {j : Nat} {a t : Pt} (ha : h[j]? = some a) (ht : (h ++ h.take 1)[j + 1]? = some t) : (a, t) ∈ loopE h := by
  unfold loopE
  rw [head_take]
  refine List.mem_iff_getElem?.mpr ⟨j, ?_⟩
  rw [path_at, ht]
  have hj := (List.getElem?_eq_some_iff.mp ha).1
  rw [List.getElem?_append_left hj, ha]
  rfl
theorem box_d1 {b c q : Pt} (h : box q b c = true) : d1 b q ≤ d1 b c ∧ (d1 b q = d1 b c → q = c) := by
  obtain ⟨_, h1, h2⟩ := box_iff.mp h
  unfold d1
  refine ⟨by omega, fun e => pt_eq (by omega) (by omega)⟩
theorem HullE.wrap {S h : List Pt} (E : HullE S h) (first : ∃ r L, h = L :: r ∧ ∀ q ∈ S, lt q L = false) : Wrap S h := by
  obtain ⟨r, L, eh, least⟩ := first
  have two := E.two
  refine ⟨E.sub, E.few, ⟨r, L, eh, least, ?_⟩, fun o => by omega, fun _ j a t ha ht => ?_⟩
  · have := E.nd
    rw [eh] at this
    exact (List.nodup_cons.mp this).1
  · have m := at_loop ha ht
    have g := E.ge _ m
    refine ⟨?_, (E.ne _ m).symm, fun q hq => ⟨(g q hq).1, fun z => box_d1 ((g q hq).2 z)⟩⟩
    refine E.sub t ?_
    rcases List.mem_append.mp (List.mem_of_getElem? ht) with w | w
    · exact w
    · exact List.mem_of_mem_take w
theorem wrap_nodup {S h : List Pt} (W : Wrap S h) : h.Nodup := by
  obtain ⟨r, L, eh, _, nL⟩ := W.least
  by_cases two : 2 ≤ h.length
  · rw [List.nodup_iff_pairwise_ne, List.pairwise_iff_getElem]
    intro i j hi hj hij e
    have at_ : ∀ k, k < h.length → ∃ x, h[k]? = some x := fun k hk => ⟨_, List.getElem?_eq_getElem hk⟩
    have nx_ : ∀ k, k < h.length → ∃ y, (h ++ h.take 1)[k + 1]? = some y := fun k hk => ⟨_, List.getElem?_eq_getElem (by rw [List.length_append, List.length_take]; omega)⟩
    have go : ∀ m, j + m < h.length → h[i + m]? = h[j + m]? := by
      intro m
      induction m with
      | zero => intro _; rw [Nat.add_zero, Nat.add_zero, List.getElem?_eq_getElem hi, List.getElem?_eq_getElem hj, e]
      | succ m ih =>
        intro hm
        have im := ih (by omega)
        obtain ⟨x, hx⟩ := at_ (j + m) (by omega)
        obtain ⟨y, hy⟩ := nx_ (j + m) (by omega)
        obtain ⟨y', hy'⟩ := nx_ (i + m) (by omega)
        have n1 := W.next two _ _ _ hx hy
        have n2 := W.next two _ _ _ (im.trans hx) hy'
        have ey := n1.unique n2 fun _ => Iff.rfl
        rw [List.getElem?_append_left (by omega)] at hy hy'
        show h[i + m + 1]? = h[j + m + 1]?
        rw [hy, hy', ey]
    have last := go (h.length - 1 - j) (by omega)
    rw [show j + (h.length - 1 - j) = h.length - 1 by omega] at last
    obtain ⟨x, hx⟩ := at_ (h.length - 1) (by omega)
    obtain ⟨y', hy'⟩ := nx_ (i + (h.length - 1 - j)) (by omega)
    have hL : (h ++ h.take 1)[h.length - 1 + 1]? = some L := by
      rw [show h.length - 1 + 1 = h.length by omega, List.getElem?_append_right (Nat.le_refl _), Nat.sub_self, eh]
      rfl
    have n1 := W.next two _ _ _ hx hL
    have n2 := W.next two _ _ _ (last.trans hx) hy'
    have ey := n1.unique n2 fun _ => Iff.rfl
    subst ey
    rw [List.getElem?_append_left (by omega), eh, List.getElem?_cons_succ] at hy'
    exact nL (List.mem_of_getElem? hy')
  · have : r = [] := by
      cases r with
      | nil => rfl
      | cons x r => rw [eh] at two; simp at two
    rw [eh, this]
    simp
theorem Wrap.hullE {S h : List Pt} (W : Wrap S h) (two : 2 ≤ h.length) : HullE S h := by
  refine ⟨two, wrap_nodup W, W.sub, W.few, fun e he q hq => ?_, fun e he => ?_⟩
  · obtain ⟨j, h1, h2⟩ := loop_at he
    have n := W.next two j _ _ h1 h2
    exact ⟨(n.all q hq).1, fun z => W.box_ two h1 h2 hq z⟩
  · obtain ⟨j, h1, h2⟩ := loop_at he
    exact (W.next two j _ _ h1 h2).ne.symm
/-- the edges of images -/
theorem loop_rot_mem (s t : List Pt) (e : Eg) : e ∈ loopE (s ++ t) ↔ e ∈ loopE (t ++ s) := by
  by_cases hs : s = []
  · subst hs; rw [List.append_nil]; rfl
  by_cases ht : t = []
  · subst ht; rw [List.append_nil]; rfl
  exact (loop_rot hs ht).2 e
theorem loop_back_mem (l : List Pt) (e : Eg) : e ∈ loopE l.reverse ↔ swp e ∈ loopE l := by
  by_cases hl : l = []
  · subst hl; exact ⟨(fun h => by cases h), (fun h => by cases h)⟩
  obtain ⟨b, a, hb, ha⟩ := ends_of hl
  have hb' : l.reverse.head? = some a := by rw [List.head?_reverse]; exact ha
  have ha' : l.reverse.getLast? = some b := by rw [List.getLast?_reverse]; exact hb
  have ss : ∀ x : Eg, swp (swp x) = x := fun x => rfl
  rw [loop_eq hb' ha', path_back, loop_eq hb ha, List.mem_append, List.mem_append, List.mem_reverse, List.mem_singleton, List.mem_singleton]
  constructor
  · rintro (h | h)
    · obtain ⟨x, hx, rfl⟩ := List.mem_map.mp h
      exact .inl hx
    · subst h; exact .inr rfl
  · rintro (h | h)
    · exact .inl (List.mem_map.mpr ⟨_, h, ss e⟩)
    · refine .inr ?_
      rw [← ss e, h]
      rfl
theorem HullE.turned {S u v : List Pt} (E : HullE S (u ++ v)) : HullE S (v ++ u) := by
  have len : (v ++ u).length = (u ++ v).length := by rw [List.length_append, List.length_append]; omega
  refine ⟨by rw [len]; exact E.two, (List.perm_append_comm).nodup_iff.mpr E.nd, fun x hx => E.sub x (by rw [List.mem_append] at hx ⊢; exact hx.symm), by rw [len]; exact E.few, fun e he => E.ge e ((loop_rot_mem v u e).mp he), fun e he => E.ne e ((loop_rot_mem v u e).mp he)⟩
theorem HullE.image {f : Pt → Pt} (I : Iso f) {S h : List Pt} (E : HullE S h) : ∃ g, HullE (S.map f) g ∧ ∀ x, x ∈ g ↔ x ∈ h.map f := by
  obtain ⟨s, hs, ht⟩ := I.tn
  have nd : (h.map f).Nodup := by
    have := E.nd
    rw [List.nodup_iff_pairwise_ne] at this ⊢
    exact List.pairwise_map.mpr (this.imp fun {a b} n e => n (I.inj e))
  have sub : ∀ x ∈ h.map f, x ∈ S.map f := fun x hx => by
    obtain ⟨y, hy, rfl⟩ := List.mem_map.mp hx
    exact List.mem_map.mpr ⟨y, E.sub y hy, rfl⟩
  rcases hs with rfl | rfl
  · refine ⟨h.map f, ⟨by rw [List.length_map]; exact E.two, nd, sub, by rw [List.length_map, List.length_map]; exact E.few, fun e he q hq => ?_, fun e he => ?_⟩, fun x => Iff.rfl⟩
    · rw [loop_map] at he
      obtain ⟨e0, h0, rfl⟩ := List.mem_map.mp he
      obtain ⟨y, hy, rfl⟩ := List.mem_map.mp hq
      have := E.ge e0 h0 y hy
      show 0 ≤ tn (f e0.1) (f e0.2) (f y) ∧ (tn (f e0.1) (f e0.2) (f y) = 0 → box (f y) (f e0.1) (f e0.2) = true)
      rw [ht, Int.one_mul, I.box]
      exact this
    · rw [loop_map] at he
      obtain ⟨e0, h0, rfl⟩ := List.mem_map.mp he
      exact I.ne (E.ne e0 h0)
  · refine ⟨(h.map f).reverse, ⟨by rw [List.length_reverse, List.length_map]; exact E.two, nodup_rev nd, fun x hx => sub x (List.mem_reverse.mp hx), by rw [List.length_reverse, List.length_map, List.length_map]; exact E.few, fun e he q hq => ?_, fun e he => ?_⟩, fun x => List.mem_reverse⟩
    · have he := (loop_back_mem _ e).mp he
      rw [loop_map] at he
      obtain ⟨e0, h0, e1⟩ := List.mem_map.mp he
      obtain ⟨y, hy, rfl⟩ := List.mem_map.mp hq
      have g := E.ge e0 h0 y hy
      have a1 : e.1 = f e0.2 := (congrArg Prod.snd e1).symm
      have a2 : e.2 = f e0.1 := (congrArg Prod.fst e1).symm
      rw [a1, a2, tn_flip, ht, box_swap, I.box]
      exact ⟨by omega, fun z => g.2 (by omega)⟩
    · have he := (loop_back_mem _ e).mp he
      rw [loop_map] at he
      obtain ⟨e0, h0, e1⟩ := List.mem_map.mp he
      have a1 : e.1 = f e0.2 := (congrArg Prod.snd e1).symm
      have a2 : e.2 = f e0.1 := (congrArg Prod.fst e1).symm
      rw [a1, a2]
      exact I.ne (E.ne e0 h0).symm
theorem HullE.least {S h : List Pt} (E : HullE S h) : ∃ L ∈ h, ∀ q ∈ S, lt q L = false := by
  have ne : h ≠ [] := fun e => by have := E.two; rw [e] at this; simp at this
  obtain ⟨v, hv, least⟩ := least_of h ne
  refine ⟨v, hv, fun q hq => Bool.eq_false_iff.mpr fun lq => ?_⟩
  obtain ⟨s, t, e⟩ := List.append_of_mem hv
  subst e
  have E2 := E.turned
  have two := E2.two
  have nd := E2.nd
  have ne2 : t ++ s ≠ [] := fun z => by
    have z2 : (v :: t ++ s).length = (t ++ s).length + 1 := by simp
    rw [z2, z] at two
    simp at two
  obtain ⟨n, z, hn, hz⟩ := ends_of ne2
  have lp : loopE (v :: t ++ s) = (v, n) :: (path (t ++ s) ++ [(z, v)]) := loop_cons hn hz
  have mn : n ∈ t ++ s := List.mem_of_mem_head? hn
  have mz : z ∈ t ++ s := List.mem_of_getLast? hz
  have nd : (v :: (t ++ s)).Nodup := nd
  have up : ∀ x ∈ t ++ s, lt v x = true := fun x hx => by
    have l1 := least x (by rw [List.mem_append] at hx; rw [List.mem_append, List.mem_cons]; rcases hx with a | a; exact .inr (.inr a); exact .inl a)
    cases e : lt v x with
    | true => rfl
    | false =>
      have := lt_tri e l1
      subst this
      exact absurd hx (List.nodup_cons.mp nd).1
  have lz := up z mz
  have ln := up n mn
  have g1 := E2.ge (z, v) (by rw [lp]; simp) q hq
  have g2 := E2.ge (v, n) (by rw [lp]; simp) q hq
  have g3 := E2.ge (z, v) (by rw [lp]; simp) n (E2.sub n (List.mem_cons_of_mem _ mn))
  dsimp only at g1 g2 g3
  have e1 : tn z v q = cx2 (way v z) (way q v) := by unfold tn turnI cx2 way; grind
  have e2 : tn v n q = cx2 (way q v) (way v n) := by unfold tn turnI cx2 way; grind
  have e3 : tn z v n = 0 - cx2 (way v z) (way v n) := by unfold tn turnI cx2 way; grind
  have z0 : tn z v q = 0 := by
    by_cases p : 0 < tn z v q
    · rw [e1] at p
      rw [e2] at g2
      have := turns3 (lt_fwd lz) (lt_fwd lq) (lt_fwd ln) p g2.1
      omega
    · omega
  have b := g1.2 z0
  rw [box_swap, ← on_box lz] at b
  have b : (decide (tn v z q = 0) && (!lt q v && !lt z q)) = true := b
  rw [lq] at b
  simp at b
theorem wrap_image {f : Pt → Pt} (I : Iso f) {S h h' : List Pt} (W : Wrap S h) (W' : Wrap (S.map f) h') : ∀ x, x ∈ h' ↔ x ∈ h.map f := by
  by_cases two : 2 ≤ h.length
  · obtain ⟨g, G, mem⟩ := (W.hullE two).image I
    obtain ⟨L, hL, least⟩ := G.least
    obtain ⟨s, t, e⟩ := List.append_of_mem hL
    subst e
    have G2 := G.turned
    have V := G2.wrap ⟨t ++ s, L, rfl, least⟩
    have eh := W'.unique V fun _ => Iff.rfl
    intro x
    rw [eh, ← mem x, List.mem_append, List.mem_append]
    exact ⟨fun h => h.symm, fun h => h.symm⟩
  · obtain ⟨r, L, eh, _, _⟩ := W.least
    have er : r = [] := by
      cases r with
      | nil => rfl
      | cons x r => rw [eh] at two; simp at two
    subst er
    have one := W.one (by rw [eh]; rfl)
    have all : ∀ x, x ∈ S.map f ↔ x ∈ [f L] := fun x => by
      rw [List.mem_singleton]
      constructor
      · intro hx
        obtain ⟨y, hy, rfl⟩ := List.mem_map.mp hx
        have := one y hy
        rw [eh] at this
        injection this with this
        rw [this]
      · intro e
        rw [e]
        exact List.mem_map.mpr ⟨L, W.sub L (by rw [eh]; simp), rfl⟩
    have e2 := W'.unique (wrap_one (f L)) all
    intro x
    rw [e2, eh]
    rfl
/-- rows in order with the same points are one -/
theorem asc_unique : ∀ {l m : List Pt}, (l.Pairwise fun a b => lt a b = true) → (m.Pairwise fun a b => lt a b = true) → (∀ x, x ∈ l ↔ x ∈ m) → l = m
  | [], [], _, _, _ => rfl
  | [], y :: m, _, _, h => absurd ((h y).mpr (by simp)) (by simp)
  | x :: l, [], _, _, h => absurd ((h x).mp (by simp)) (by simp)
  | x :: l, y :: m, hl, hm, h => by
    obtain ⟨l1, l2⟩ := List.pairwise_cons.mp hl
    obtain ⟨m1, m2⟩ := List.pairwise_cons.mp hm
    have e : x = y := by
      rcases List.mem_cons.mp ((h x).mp (by simp)) with e | e
      · exact e
      · rcases List.mem_cons.mp ((h y).mpr (by simp)) with e2 | e2
        · exact e2.symm
        · have := l1 y e2
          rw [lt_le (m1 x e)] at this
          cases this
    subst e
    rw [asc_unique l2 m2 fun z => ?_]
    constructor
    · intro hz
      rcases List.mem_cons.mp ((h z).mp (List.mem_cons_of_mem _ hz)) with e | e
      · subst e
        have := l1 z hz
        rw [lt_irr] at this
        cases this
      · exact e
    · intro hz
      rcases List.mem_cons.mp ((h z).mpr (List.mem_cons_of_mem _ hz)) with e | e
      · subst e
        have := m1 z hz
        rw [lt_irr] at this
        cases this
      · exact e
end My
namespace My
open PySem L2
/-! ## the images that a law draws: turned, mirrored or not, moved -/
def mid_ (mi : Bool) (p : Pt) : Pt := if mi = true then mirr p else p
def img (r : Nat) (mi : Bool) (d e : Int) (p : Pt) : Pt := shft d e (mid_ mi (quartN r p))
def exN : Nat → Fr × Fr → Fr × Fr
  | 0, z => z
  | n + 1, z => exQ (exN n z)
def exI (mi : Bool) (z : Fr × Fr) : Fr × Fr := if mi = true then exM z else z
def exH (r : Nat) (mi : Bool) (d e : Int) (z : Fr × Fr) : Fr × Fr := exS d e (exI mi (exN r z))
theorem iso_quartN : ∀ r, Iso (quartN r)
  | 0 => iso_id
  | r + 1 => (iso_quartN r).comp iso_quart
theorem exact_quartN : ∀ r, Exact (quartN r) (exN r)
  | 0 => exact_id
  | r + 1 => (exact_quartN r).comp exact_quart
theorem keeps_id : Keeps id := fun p l => by rw [List.map_id]; rfl
theorem keeps_quartN : ∀ r, Keeps (quartN r)
  | 0 => keeps_id
  | r + 1 => (keeps_quartN r).comp keeps_quart
theorem iso_mid (mi : Bool) : Iso (mid_ mi) := by
  cases mi
  · exact iso_id
  · exact iso_mirr
theorem exact_mid (mi : Bool) : Exact (mid_ mi) (exI mi) := by
  cases mi
  · exact exact_id
  · exact exact_mirr
theorem keeps_mid (mi : Bool) : Keeps (mid_ mi) := by
  cases mi
  · exact keeps_id
  · exact keeps_mirr
theorem iso_img (r : Nat) (mi : Bool) (d e : Int) : Iso (img r mi d e) := ((iso_quartN r).comp (iso_mid mi)).comp (iso_shft d e)
theorem exact_img (r : Nat) (mi : Bool) (d e : Int) : Exact (img r mi d e) (exH r mi d e) := ((exact_quartN r).comp (exact_mid mi)).comp (exact_shft d e)
theorem keeps_img (r : Nat) (mi : Bool) (d e : Int) : Keeps (img r mi d e) := ((keeps_quartN r).comp (keeps_mid mi)).comp (keeps_shft d e)
theorem in_quartN {f : Int} {p : Pt} (h : In f p.1 p.2) : ∀ r, In f (quartN r p).1 (quartN r p).2
  | 0 => h
  | r + 1 => by
    have := in_quartN h r
    show In f (0 - (quartN r p).2) (quartN r p).1
    unfold In at *
    omega
theorem in_mid {f : Int} {p : Pt} (mi : Bool) (h : In f p.1 p.2) : In f (mid_ mi p).1 (mid_ mi p).2 := by
  cases mi
  · exact h
  · show In f (0 - p.1) p.2
    unfold In at *
    omega
/-- how, at an address -/
structure HowAt (K : PySem.W.Frag) (H : Hp) (h : Addr) (r : Nat) (mi : Bool) (d e : Int) : Prop where
  l : SqL K H h [.int (r : Int), .int (if mi = true then 1 else 0), .int d, .int e]
  r3 : r ≤ 3
  d9 : -900 ≤ d ∧ d ≤ 900
  e9 : -900 ≤ e ∧ e ≤ 900
theorem HowAt.same {K : PySem.W.Frag} {H H' : Hp} {h : Addr} {r : Nat} {mi : Bool} {d e : Int} (s : Same H H') (w : HowAt K H h r mi d e) : HowAt K H' h r mi d e := { w with l := s.seq w.l }
theorem HowAt.on {K : PySem.W.Frag} {H : Hp} {h : Addr} {r : Nat} {mi : Bool} {d e : Int} (w : HowAt K H h r mi d e) {f : Int} {p : Pt} (hf : f ≤ 100) (i : In f p.1 p.2) : On (img r mi d e p).1 (img r mi d e p).2 := by
  have h1 := in_mid mi (in_quartN i r)
  have h2 := w.d9
  have h3 := w.e9
  show On ((mid_ mi (quartN r p)).1 + d) ((mid_ mi (quartN r p)).2 + e)
  unfold In at h1
  unfold On
  omega
/-- two fractions of a size that the law's own arithmetic takes -/
structure Fr40 (z : Fr × Fr) : Prop where
  x0 : z.1.2 ≠ 0
  x1 : z.1.1.natAbs ≤ 2 ^ 40
  x2 : z.1.2.natAbs ≤ 2 ^ 40
  y0 : z.2.2 ≠ 0
  y1 : z.2.1.natAbs ≤ 2 ^ 40
  y2 : z.2.2.natAbs ≤ 2 ^ 40
theorem Fr40.q {z : Fr × Fr} (g : Fr40 z) : Fr40 (exQ z) := ⟨g.y0, by
  show (0 - z.2.1).natAbs ≤ _
  have := g.y1
  omega, g.y2, g.x0, g.x1, g.x2⟩
theorem Fr40.m {z : Fr × Fr} (g : Fr40 z) : Fr40 (exM z) := ⟨g.x0, by
  show (0 - z.1.1).natAbs ≤ _
  have := g.x1
  omega, g.x2, g.y0, g.y1, g.y2⟩
/-- a list of points within a square, through draws -/
structure PF (f : Int) (K : PySem.W.Frag) (H : Hp) (s p : Addr) (zs : List Zp) : Prop where
  l : H p = some (.lst (refs zs))
  n : p ≠ s
  p : Pts K H zs
  ins : ∀ z ∈ zs, In f z.2.1 z.2.2
section
variable {f : Int} {K : PySem.W.Frag} {H H' : Hp} {s b p q : Addr} {zs ws : List Zp} {o : HO}
theorem PF.on (hf : f ≤ 1000) (h : PF f K H s p zs) : ∀ z ∈ zs, On z.2.1 z.2.2 := fun z m => (h.ins z m).on hf
theorem PF.same (e : Same H H') (h : PF f K H s p zs) : PF f K H' s p zs := ⟨e.get h.l, h.n, h.p.same e, h.ins⟩
theorem PF.but (e : But s H H') (S : Strm H s b) (h : PF f K H s p zs) : PF f K H' s p zs := ⟨e.get h.n h.l, h.n, h.p.but e S, h.ins⟩
theorem PF.over (n : H q = none) (h : PF f K H s p zs) : PF f K (upd H q o) s p zs := h.same (same_new n)
theorem PF.seq (h : PF f K H s p zs) : SqL K H p (refs zs) := SqL.of h.l
theorem PF.at_ {i : Nat} {z : Zp} (h : PF f K H s p zs) (e : zs[i]? = some z) : SqT K H z.1 [.int z.2.1, .int z.2.2] := h.p.get e
end
theorem seg_image {K : PySem.W.Frag} {H : Hp} {t p q : Addr} {A C : Pt} (ht : SqT K H t [.ref p, .ref q]) (hp : PtAt K H p (ord A C).1) (hq : PtAt K H q (ord A C).2) (oa : On A.1 A.2) (oc : On C.1 C.2) (ne : A ≠ C) :
    SegAt K H t p q (ord A C).1.1 (ord A C).1.2 (ord A C).2.1 (ord A C).2.2 := by
  have l := ord_lt ne
  rcases ord_or A C with e | e <;> rw [e] at hp hq l ⊢
  · exact ⟨ht, hp, hq, oa, oc, l⟩
  · exact ⟨ht, hp, hq, oc, oa, l⟩
/-- places of images in the rings that are made of images -/
theorem place_image {f : Pt → Pt} (k : Keeps f) {zs ws vs : List Zp} (e : zs.map (fun z => z.2) = (ws.map fun z => z.2).map f) (m : Made zs vs) (p : Pt) : placeS (f p) vs = placeS p ws := by
  rw [m.place, placeS_L, placeS_L, e]
  exact k p _
theorem simp_image {f : Pt → Pt} (I : Iso f) {zs ws : List Zp} (e : zs.map (fun z => z.2) = (ws.map fun z => z.2).map f) (S : Simp ws) (ne : ws ≠ []) : Simp zs := by
  have l : zs.length = ws.length := by
    have := congrArg List.length e
    rwa [List.length_map, List.length_map, List.length_map] at this
  have P : ∀ i, pt zs i = f (pt ws i) := fun i => by
    have hi : i % ws.length < ws.length := Nat.mod_lt _ (by cases ws with | nil => exact absurd rfl ne | cons _ _ => simp)
    have e1 := congrArg (fun x => x[i % ws.length]?) e
    simp only [List.getElem?_map] at e1
    have h1 := List.getElem?_eq_getElem hi
    have h2 := List.getElem?_eq_getElem (show i % ws.length < zs.length by omega)
    rw [h1, h2] at e1
    injection e1 with e1
    unfold pt
    rw [l, h1, h2]
    exact e1
  refine ⟨fun i hi => ?_, fun i hi => ?_, fun i j a b c => ?_⟩
  · rw [P, P]
    exact I.ne (S.ne i (by omega))
  · rw [P, P, P]
    have := S.adj i (by omega)
    exact ⟨by rw [I.box]; exact this.1, by rw [I.box]; exact this.2⟩
  · rw [P, P, P, P]
    exact I.apart.mpr (S.apart i j a (by omega) (by omega))
end My
namespace SrtT
open PySem PySem.Calls PyProof.Rows L2
/-! ## sorted(t), t a tuple of points -/
section
variable {prog : Program} {w : World} {A : Around} {E : Value → Shared → Prop} {s : Shared}
abbrev bareL : Obj := seqObj "list" #[] 0
theorem all_of_tuple {l : Addr} {vs : List Value} {Q : List Value → Shared → Prop} (isT : s.heap.IsTuple l vs.toArray) (few : vs.length ≤ sizeLine)
    (next : Q vs { s with heap := (s.heap.push bareL).update s.heap.objs.size (Obj.mapSeq (· ++ vs.toArray)) }) :
    wpAny (model prog w) A (collect (.ref l)) Q E s := by
  obtain ⟨o, atT, cls_, n, data_⟩ := id isT
  have pushed : (s.heap.push bareL).get? s.heap.objs.size = some bareL := Heap.get?_push_size _ rfl
  have kept : (s.heap.push bareL).get? l = some o := Heap.get?_push_of_some _ atT
  unfold collect
  refine (wpAny_bind (wpAny_runValue (codeAny_builtin entry_proto_collect' (?_))))
  refine (wpAny_bind (wpAny_newList (wpAny_pure ⟨Code.quiet_builtin _ (by decide +kernel), codeAny_builtin entry_list_iadd' (?_)⟩)))
  show wpAny _ _ (Builtin.List.listExtendWith (.ref s.heap.objs.size) (.ref l) (.ref s.heap.objs.size)) _ _ ({ s with heap := s.heap.push bareL })
  unfold Builtin.List.listExtendWith
  refine (wpAny_bind (wpAny_typeOf (T := "tuple") ⟨o, kept, cls_⟩ (?_)))
  have tt : (Value.type "tuple" == Value.type "tuple") = true := by rfl
  rw [if_pos (by rw [tt, Bool.or_true])]
  refine (wpAny_bind (listItems_at kept data_ (?_)))
  refine (wpAny_bind (listItems_at (xs := #[]) (n := 0) pushed rfl (?_)))
  rw [if_neg (by simp)]
  refine (wpAny_bind (listUpdate_at (xs := #[]) (n := 0) pushed rfl (?_) (Nat.zero_le _) (by show (#[] ++ vs.toArray).size ≤ sizeLine + 1; simp only [Array.size_append, List.size_toArray, List.length_nil]; omega)))
  refine (wpAny_pure (?_))
  show wpAny (model prog w) A (load s.heap.objs.size >>= fun o => match o.data with
      | .seq xs _ => pure xs.toList
      | _ => unsupported "internal:collect") Q E ({ s with heap := (s.heap.push bareL).update s.heap.objs.size (Obj.mapSeq (· ++ vs.toArray)) })
  refine (wpAny_bind (wpAny_load (get?_update_seq pushed _) (?_)))
  show wpAny _ _ (pure ((#[] : Array Value) ++ vs.toArray).toList) _ _ _
  rw [show ((#[] : Array Value) ++ vs.toArray).toList = vs by simp]
  exact (wpAny_pure next)
open PySem.W
theorem sorted_tuple {κ : PyProof.Rows.KeyKind} {l : Addr} {vs : List Value} {Q : Value → Shared → Prop} (isT : s.heap.IsTuple l vs.toArray) (S : SortsAt prog w A.in1.in1 { s with heap := sortingHeap (copyHeap s.heap vs) (s.heap.objs.size + 1) vs } κ vs) (few : vs.length ≤ sizeLine)
    (next : Q (.ref (s.heap.objs.size + 1)) { s with heap := sortedAll s.heap vs (sortVals κ false vs vs).toArray }) : wpAny (model prog w) A (call (.builtin "sorted") [.ref l]) Q E s := by
  refine (Calls.call_function_entry kind_sorted plain_sorted entry_sorted (args_sorted1 (Value.ref l)) (?_))
  unfold Builtin.«sorted»
  refine wpAny_bind (m := checkCount "sorted" 1 1 _) (wpAny_pure (?_))
  refine (wpAny_bind (all_of_tuple isT few (?_)))
  refine (wpAny_bind (wpAny_newList (?_) few))
  have size_ : ((s.heap.push bareL).update s.heap.objs.size (Obj.mapSeq (· ++ vs.toArray))).objs.size = s.heap.objs.size + 1 := by
    rw [Heap.size_update, Heap.size_push]
  show wpAny _ _ _ _ _ ({ s with heap := copyHeap s.heap vs })
  rw [size_]
  refine wpAny_bind (wpAny_holding (wpAny_call_entry_kw slot_list_sort ⟨_, copyHeap_at s.heap vs, rfl⟩ entry_list_sort (?_) (args_list_sort _)))
  show wpAny (model prog w) A.in1.in1 (Builtin.«list.sort» ⟨[.ref (s.heap.objs.size + 1)], []⟩) _ _ _
  refine list_sort_vals (s := { s with heap := copyHeap s.heap vs }) (copyHeap_at s.heap vs) S few ?_
  exact ⟨_, rfl, wpAny_pure ⟨_, rfl, next⟩⟩
end
/-- sorted(t), t a tuple of pairs of whole numbers -/
def rSortT (K : PySem.W.Frag) : List V → Hp → VK → Prop := fun vs H Q => ∃ (a : Addr) (bs : List My.Pn), vs = [V.ref a] ∧ SqT K H a (bs.map My.pnV) ∧ bs.length ≤ 1000 ∧ (∀ b ∈ bs, SqT K H b.1 [.int b.2.1, .int b.2.2]) ∧
  ∀ p, H p = none → Q (.ref p) (upd H p (.lst ((bs.mergeSort fun p q => decide (p.2.1 < q.2.1 ∨ (p.2.1 = q.2.1 ∧ p.2.2 ≤ q.2.2))).map My.pnV)))
open PySem.W in
theorem cr_sortT {X : Cx} (hu : X.A.units + 64 < cLine) : CallR X (.builtin "sorted") (rSortT X.K) := by
  intro pins s σ H vs us Q I r h
  obtain ⟨a, bs, rfl, hs, few, hb, q⟩ := h
  obtain ⟨its, rv, hl, _⟩ := I.tuple hs
  rw [Vals.ref1 r]
  have big : 1000 ≤ sizeLine := by decide
  have e1 : PySem.W.EachIs (fun v b => v = Value.ref b.1) its bs := My.each_of_vals rv fun b _ => rfl
  have e2 : PySem.W.EachIs (fun v b => ∃ as, Reads s.heap v (My.pnD b) as) its bs := My.each_of_vals rv fun b m => Dp.reads I _ (.ref b.1) _ (My.dP (hb b m)) rfl
  have e3 : PySem.W.EachIs (fun v b => ∃ as, Reads (sortingHeap (copyHeap s.heap its) (s.heap.objs.size + 1) its) v (My.pnD b) as) its bs := e2.mono fun _ _ ⟨as, r⟩ => ⟨as, PyProof.Rows.Reads.keeps (fun _ _ => sorting_copy_old) r⟩
  have al : AllAlike (bs.map My.pnD) := AllAlike.of fun b b' => by
    unfold My.pnD My.pD
    simp [PySem.W.alike, PySem.W.alikeAll]
  have so : Sortable (bs.map My.pnD) := Sortable.tuples fun b => ⟨_, _, rfl⟩
  have len_ : its.length = bs.length := e1.length
  have dp : ∀ b : My.Pn, b ∈ bs → X.A.units + 2 + (My.pnD b).depth < cLine := fun b _ => by
    have : (My.pnD b).depth ≤ 8 := by
      unfold My.pnD My.pD
      simp [PyData.depthAll, PyData.depth]
    omega
  have S := SortsAt.data (prog := X.prog) (w := X.w) (A := X.A.in1.in1) (s := { s with heap := sortingHeap (copyHeap s.heap its) (s.heap.objs.size + 1) its }) (each_map (R := fun v d => ∃ as, Reads _ v d as) My.pnD e3) al so (bound_map dp)
  refine sorted_tuple hl S (by rw [len_]; omega) ?_
  have eo := sortVals_data false e1 e3 al
  rw [show PySem.W.dataLe false My.pnD = fun p q : My.Pn => decide (p.2.1 < q.2.1 ∨ (p.2.1 = q.2.1 ∧ p.2.2 ≤ q.2.2)) from PySem.W.dataLe_ii (fun b : My.Pn => b.2.1) (fun b : My.Pn => b.2.2)] at eo
  have rv2 := My.vals_of_each eo
  have hp := I.hok.fresh (Nat.le_succ s.heap.objs.size)
  obtain ⟨ep, he'⟩ := PyProof.Rows.sortedAll_at s.heap its (List.toArray _)
  refine ⟨.ref _, upd H (s.heap.objs.size + 1) (.lst _), I.laid (t' := s.toks) (fun _ _ => PyProof.Rows.sortedAll_old) (Nat.le_succ _) ⟨?_, _, ep, rv2, he'⟩, rfl, q _ hp⟩
  rw [List.length_map, List.length_mergeSort]
  omega
end SrtT
namespace My
open PySem L2
/-! ## sorted rows of the same points are the same -/
abbrev srt (zs : List Pn) : List Pn := zs.mergeSort fun p q => decide (p.2.1 < q.2.1 ∨ (p.2.1 = q.2.1 ∧ p.2.2 ≤ q.2.2))
theorem list_shaped (zs : List Zp) : SeqAt.shaped (.list (ptsD zs)) = true := by
  have e : (PyData.list (ptsD zs)).depth ≤ 9 := by rw [PyData.depth]; exact Nat.succ_le_succ (ptsD_depth zs)
  have l : PyData.canLay0 (.list (ptsD zs)) = true := by rw [PyData.canLay0]; exact ptsD_lay zs
  unfold SeqAt.shaped
  rw [l, decide_eq_true (Nat.le_trans e (by decide))]
  rfl
theorem eqvL (zs ws : List Zp) : PyData.eqv (.list (ptsD zs)) (.list (ptsD ws)) = decide (crd zs = crd ws) := by
  rw [PyData.eqv]
  exact eqv_all zs ws
theorem srt_asc {zs : List Zp} (n : (crd zs).Nodup) : (crd (srt zs)).Pairwise fun a b => lt a b = true := by
  have h1 := sortP_le zs
  have h2 : (crd (srt zs)).Nodup := ((sortP_perm zs).map fun z => z.2).nodup_iff.mpr n
  rw [List.nodup_iff_pairwise_ne] at h2
  have h3 : (crd (srt zs)).Pairwise fun a b => lt b a = false := List.pairwise_map.mpr h1
  refine (h2.and h3).imp fun {a b} h => ?_
  cases e : lt a b with
  | true => rfl
  | false => exact absurd (lt_tri e h.2) h.1
theorem sorted_same {zs ws : List Zp} (n : (crd zs).Nodup) (m : (crd ws).Nodup) (h : ∀ x, x ∈ crd zs ↔ x ∈ crd ws) : crd (srt zs) = crd (srt ws) := by
  refine asc_unique (srt_asc n) (srt_asc m) fun x => ?_
  have p1 : (crd (srt zs)).Perm (crd zs) := (sortP_perm zs).map fun z => z.2
  have p2 : (crd (srt ws)).Perm (crd ws) := (sortP_perm ws).map fun z => z.2
  rw [p1.mem_iff, p2.mem_iff]
  exact h x
theorem nodup_image {f : Pt → Pt} (I : Iso f) {l : List Pt} (n : l.Nodup) : (l.map f).Nodup := by
  rw [List.nodup_iff_pairwise_ne] at n ⊢
  exact List.pairwise_map.mpr (n.imp fun {a b} h => I.ne h)
/-- the hull of images, sorted, is the images of the hull, sorted -/
theorem hull_image {f : Pt → Pt} (I : Iso f) {zs vs ws us ys : List Zp} (W : Wrap (crd zs) (crd ws)) (ev : crd vs = (crd zs).map f) (W' : Wrap (crd vs) (crd us)) (ey : crd ys = (crd ws).map f) : crd (srt us) = crd (srt ys) := by
  rw [ev] at W'
  refine sorted_same (wrap_nodup W') (by rw [ey]; exact nodup_image I (wrap_nodup W)) fun x => ?_
  rw [ey]
  exact wrap_image I W W' x
theorem crd_pts {K : PySem.W.Frag} {H : Hp} {zs ws : List Zp} (h : Pts K H zs) (g : ∀ w ∈ ws, w ∈ zs) : Pts K H ws := fun w m => h w (g w m)
end My
namespace My
open PySem L2
/-! the steps of a reading -/
local macro_rules | `(tactic| walk_at "t") => `(tactic| first
  | assumption
  | exact tHere
  | exact lHere
  | (refine tOver (by assumption) ?_; walk_at "t")
  | (refine lOver (by assumption) ?_; walk_at "t")
  | (refine tSame (by assumption) ?_; walk_at "t")
  | (refine tBut (by assumption) (by assumption) ?_; walk_at "t"))
local macro_rules | `(tactic| walk_at "ix") => `(tactic| first | exact at0 | exact at1 | exact at2 | exact at3 | rfl)
local macro_rules | `(tactic| walk_at "r1") => `(tactic| first
  | refine ⟨_, rfl, ?_⟩
  | refine ⟨_, _, rfl, rfl, ?_⟩
  | refine ⟨rfl, ?_⟩
  | refine ⟨_, _, _, _, rfl, rfl, (by walk_at "t"), (by walk_at "ix"), ?_⟩
  | refine ⟨small rfl, ?_⟩)
local macro_rules | `(tactic| walk_at "r") => `(tactic| repeat walk_at "r1")
def top (i : Nat) : Stmt := PySem.Challenge.pw_trueatlas_k13_everything_turned.main.body.getD i (.Pass ⟨0, 0, 0, 0⟩)
abbrev s_is_whole : Stmt := (top 5)
abbrev N_is_whole : List Str := ["value"]
theorem sc_is_whole : FnScope N_is_whole ["value"] (defScope s_is_whole) := ⟨rfl, rfl, rfl, by decide +kernel, rfl, by decide +kernel, by decide +kernel⟩
abbrev s_is_pair : Stmt := (top 6)
abbrev N_is_pair : List Str := ["value"]
theorem sc_is_pair : FnScope N_is_pair ["value"] (defScope s_is_pair) := ⟨rfl, rfl, rfl, by decide +kernel, rfl, by decide +kernel, by decide +kernel⟩
abbrev s_need : Stmt := (top 7)
abbrev N_need : List Str := ["holds", "name"]
theorem sc_need : FnScope N_need ["holds", "name"] (defScope s_need) := ⟨rfl, rfl, rfl, by decide +kernel, rfl, by decide +kernel, by decide +kernel⟩
abbrev s_lowest : Stmt := (top 9)
abbrev N_lowest : List Str := ["n", "d", "common"]
theorem sc_lowest : FnScope N_lowest ["n", "d"] (defScope s_lowest) := ⟨rfl, rfl, rfl, by decide +kernel, rfl, by decide +kernel, by decide +kernel⟩
abbrev s_is_coordinate : Stmt := (top 13)
abbrev N_is_coordinate : List Str := ["value"]
theorem sc_is_coordinate : FnScope N_is_coordinate ["value"] (defScope s_is_coordinate) := ⟨rfl, rfl, rfl, by decide +kernel, rfl, by decide +kernel, by decide +kernel⟩
abbrev s_is_point : Stmt := (top 14)
abbrev N_is_point : List Str := ["value"]
theorem sc_is_point : FnScope N_is_point ["value"] (defScope s_is_point) := ⟨rfl, rfl, rfl, by decide +kernel, rfl, by decide +kernel, by decide +kernel⟩
abbrev s_is_segment : Stmt := (top 15)
abbrev N_is_segment : List Str := ["value"]
theorem sc_is_segment : FnScope N_is_segment ["value"] (defScope s_is_segment) := ⟨rfl, rfl, rfl, by decide +kernel, rfl, by decide +kernel, by decide +kernel⟩
abbrev s_are_points : Stmt := (top 16)
abbrev N_are_points : List Str := ["value", "least", "most", "p"]
theorem sc_are_points : FnScope N_are_points ["value", "least", "most"] (defScope s_are_points) := ⟨rfl, rfl, rfl, by decide +kernel, rfl, by decide +kernel, by decide +kernel⟩
abbrev s_joining : Stmt := (top 17)
abbrev N_joining : List Str := ["p", "q"]
theorem sc_joining : FnScope N_joining ["p", "q"] (defScope s_joining) := ⟨rfl, rfl, rfl, by decide +kernel, rfl, by decide +kernel, by decide +kernel⟩
abbrev s_edges_along : Stmt := (top 18)
abbrev N_edges_along : List Str := ["points", "p", "q"]
theorem sc_edges_along : FnScope N_edges_along ["points"] (defScope s_edges_along) := ⟨rfl, rfl, rfl, by decide +kernel, rfl, by decide +kernel, by decide +kernel⟩
abbrev s_turn_of : Stmt := (top 19)
abbrev N_turn_of : List Str := ["a", "b", "c"]
theorem sc_turn_of : FnScope N_turn_of ["a", "b", "c"] (defScope s_turn_of) := ⟨rfl, rfl, rfl, by decide +kernel, rfl, by decide +kernel, by decide +kernel⟩
abbrev s_is_on : Stmt := (top 20)
abbrev N_is_on : List Str := ["p", "segment", "a", "b"]
theorem sc_is_on : FnScope N_is_on ["p", "segment"] (defScope s_is_on) := ⟨rfl, rfl, rfl, by decide +kernel, rfl, by decide +kernel, by decide +kernel⟩
abbrev s_crosses_east : Stmt := (top 21)
abbrev N_crosses_east : List Str := ["p", "a", "b", "low", "high"]
theorem sc_crosses_east : FnScope N_crosses_east ["p", "a", "b"] (defScope s_crosses_east) := ⟨rfl, rfl, rfl, by decide +kernel, rfl, by decide +kernel, by decide +kernel⟩
abbrev s_are_apart : Stmt := (top 23)
abbrev N_are_apart : List Str := ["first", "second", "a", "b", "c", "d"]
theorem sc_are_apart : FnScope N_are_apart ["first", "second"] (defScope s_are_apart) := ⟨rfl, rfl, rfl, by decide +kernel, rfl, by decide +kernel, by decide +kernel⟩
abbrev s_meeting_on_line : Stmt := (top 24)
abbrev N_meeting_on_line : List Str := ["first", "second", "low", "high"]
theorem sc_meeting_on_line : FnScope N_meeting_on_line ["first", "second"] (defScope s_meeting_on_line) := ⟨rfl, rfl, rfl, by decide +kernel, rfl, by decide +kernel, by decide +kernel⟩
abbrev s_common_end : Stmt := (top 25)
abbrev N_common_end : List Str := ["first", "second", "p"]
theorem sc_common_end : FnScope N_common_end ["first", "second"] (defScope s_common_end) := ⟨rfl, rfl, rfl, by decide +kernel, rfl, by decide +kernel, by decide +kernel⟩
abbrev s_cut_point : Stmt := (top 26)
abbrev N_cut_point : List Str := ["first", "before", "after", "a", "b", "whole"]
theorem sc_cut_point : FnScope N_cut_point ["first", "before", "after"] (defScope s_cut_point) := ⟨rfl, rfl, rfl, by decide +kernel, rfl, by decide +kernel, by decide +kernel⟩
abbrev s_meeting_of : Stmt := (top 27)
abbrev N_meeting_of : List Str := ["first", "second", "a", "b", "c", "d", "before", "after", "p", "x", "y"]
theorem sc_meeting_of : FnScope N_meeting_of ["first", "second"] (defScope s_meeting_of) := ⟨rfl, rfl, rfl, by decide +kernel, rfl, by decide +kernel, by decide +kernel⟩
abbrev s_meeting : Stmt := (top 28)
abbrev N_meeting : List Str := ["first", "second"]
theorem sc_meeting : FnScope N_meeting ["first", "second"] (defScope s_meeting) := ⟨rfl, rfl, rfl, by decide +kernel, rfl, by decide +kernel, by decide +kernel⟩
abbrev s_ways_around : Stmt := (top 33)
abbrev N_ways_around : List Str := ["points"]
theorem sc_ways_around : FnScope N_ways_around ["points"] (defScope s_ways_around) := ⟨rfl, rfl, rfl, by decide +kernel, rfl, by decide +kernel, by decide +kernel⟩
abbrev s_area_around : Stmt := (top 34)
abbrev N_area_around : List Str := ["points", "p", "q"]
theorem sc_area_around : FnScope N_area_around ["points"] (defScope s_area_around) := ⟨rfl, rfl, rfl, by decide +kernel, rfl, by decide +kernel, by decide +kernel⟩
abbrev s_do_follow : Stmt := (top 35)
abbrev N_do_follow : List Str := ["i", "j", "many"]
theorem sc_do_follow : FnScope N_do_follow ["i", "j", "many"] (defScope s_do_follow) := ⟨rfl, rfl, rfl, by decide +kernel, rfl, by decide +kernel, by decide +kernel⟩
abbrev s_is_simple : Stmt := (top 36)
abbrev N_is_simple : List Str := ["points", "edges", "many", "j", "i", "wanted", "p", "q"]
theorem sc_is_simple : FnScope N_is_simple ["points"] (defScope s_is_simple) := ⟨rfl, rfl, rfl, by decide +kernel, rfl, by decide +kernel, by decide +kernel⟩
abbrev s_goes_around : Stmt := (top 37)
abbrev N_goes_around : List Str := ["value"]
theorem sc_goes_around : FnScope N_goes_around ["value"] (defScope s_goes_around) := ⟨rfl, rfl, rfl, by decide +kernel, rfl, by decide +kernel, by decide +kernel⟩
abbrev s_is_ring : Stmt := (top 38)
abbrev N_is_ring : List Str := ["value"]
theorem sc_is_ring : FnScope N_is_ring ["value"] (defScope s_is_ring) := ⟨rfl, rfl, rfl, by decide +kernel, rfl, by decide +kernel, by decide +kernel⟩
abbrev s_ring_of : Stmt := (top 39)
abbrev N_ring_of : List Str := ["points", "start"]
theorem sc_ring_of : FnScope N_ring_of ["points"] (defScope s_ring_of) := ⟨rfl, rfl, rfl, by decide +kernel, rfl, by decide +kernel, by decide +kernel⟩
abbrev s_place_in : Stmt := (top 40)
abbrev N_place_in : List Str := ["p", "ring", "crossed", "edge", "a", "b"]
theorem sc_place_in : FnScope N_place_in ["p", "ring"] (defScope s_place_in) := ⟨rfl, rfl, rfl, by decide +kernel, rfl, by decide +kernel, by decide +kernel⟩
abbrev s_left_turns : Stmt := (top 41)
abbrev N_left_turns : List Str := ["points", "row", "p"]
theorem sc_left_turns : FnScope N_left_turns ["points"] (defScope s_left_turns) := ⟨rfl, rfl, rfl, by decide +kernel, rfl, by decide +kernel, by decide +kernel⟩
abbrev s_hull_of : Stmt := (top 42)
abbrev N_hull_of : List Str := ["points", "places", "below", "above"]
theorem sc_hull_of : FnScope N_hull_of ["points"] (defScope s_hull_of) := ⟨rfl, rfl, rfl, by decide +kernel, rfl, by decide +kernel, by decide +kernel⟩
abbrev s__law_stream : Stmt := (top 44)
abbrev N__law_stream : List Str := ["script"]
theorem sc__law_stream : FnScope N__law_stream ["script"] (defScope s__law_stream) := ⟨rfl, rfl, rfl, by decide +kernel, rfl, by decide +kernel, by decide +kernel⟩
abbrev s__law_next : Stmt := (top 45)
abbrev N__law_next : List Str := ["stream", "many", "k", "cell", "digit"]
theorem sc__law_next : FnScope N__law_next ["stream", "many"] (defScope s__law_next) := ⟨rfl, rfl, rfl, by decide +kernel, rfl, by decide +kernel, by decide +kernel⟩
abbrev s__law_is_integer : Stmt := (top 46)
abbrev N__law_is_integer : List Str := ["actual"]
theorem sc__law_is_integer : FnScope N__law_is_integer ["actual"] (defScope s__law_is_integer) := ⟨rfl, rfl, rfl, by decide +kernel, rfl, by decide +kernel, by decide +kernel⟩
abbrev s__law_gcd : Stmt := (top 47)
abbrev N__law_gcd : List Str := ["a", "b", "k"]
theorem sc__law_gcd : FnScope N__law_gcd ["a", "b"] (defScope s__law_gcd) := ⟨rfl, rfl, rfl, by decide +kernel, rfl, by decide +kernel, by decide +kernel⟩
abbrev s__law_low : Stmt := (top 48)
abbrev N__law_low : List Str := ["n", "d", "shared"]
theorem sc__law_low : FnScope N__law_low ["n", "d"] (defScope s__law_low) := ⟨rfl, rfl, rfl, by decide +kernel, rfl, by decide +kernel, by decide +kernel⟩
abbrev s__law_plus : Stmt := (top 49)
abbrev N__law_plus : List Str := ["a", "b"]
theorem sc__law_plus : FnScope N__law_plus ["a", "b"] (defScope s__law_plus) := ⟨rfl, rfl, rfl, by decide +kernel, rfl, by decide +kernel, by decide +kernel⟩
abbrev s__law_equal : Stmt := (top 53)
abbrev N__law_equal : List Str := ["actual", "due", "at"]
theorem sc__law_equal : FnScope N__law_equal ["actual", "due"] (defScope s__law_equal) := ⟨rfl, rfl, rfl, by decide +kernel, rfl, by decide +kernel, by decide +kernel⟩
abbrev s__law_turn : Stmt := (top 54)
abbrev N__law_turn : List Str := ["a", "b", "c"]
theorem sc__law_turn : FnScope N__law_turn ["a", "b", "c"] (defScope s__law_turn) := ⟨rfl, rfl, rfl, by decide +kernel, rfl, by decide +kernel, by decide +kernel⟩
abbrev s__law_sign : Stmt := (top 55)
abbrev N__law_sign : List Str := ["n"]
theorem sc__law_sign : FnScope N__law_sign ["n"] (defScope s__law_sign) := ⟨rfl, rfl, rfl, by decide +kernel, rfl, by decide +kernel, by decide +kernel⟩
abbrev s__law_between : Stmt := (top 56)
abbrev N__law_between : List Str := ["p", "a", "b"]
theorem sc__law_between : FnScope N__law_between ["p", "a", "b"] (defScope s__law_between) := ⟨rfl, rfl, rfl, by decide +kernel, rfl, by decide +kernel, by decide +kernel⟩
abbrev s__law_point : Stmt := (top 57)
abbrev N__law_point : List Str := ["stream", "far"]
theorem sc__law_point : FnScope N__law_point ["stream", "far"] (defScope s__law_point) := ⟨rfl, rfl, rfl, by decide +kernel, rfl, by decide +kernel, by decide +kernel⟩
abbrev s__law_segment : Stmt := (top 59)
abbrev N__law_segment : List Str := ["stream", "far", "a", "b"]
theorem sc__law_segment : FnScope N__law_segment ["stream", "far"] (defScope s__law_segment) := ⟨rfl, rfl, rfl, by decide +kernel, rfl, by decide +kernel, by decide +kernel⟩
abbrev s__law_edges : Stmt := (top 60)
abbrev N__law_edges : List Str := ["points", "found", "at", "p", "q"]
theorem sc__law_edges : FnScope N__law_edges ["points"] (defScope s__law_edges) := ⟨rfl, rfl, rfl, by decide +kernel, rfl, by decide +kernel, by decide +kernel⟩
abbrev s__law_size : Stmt := (top 61)
abbrev N__law_size : List Str := ["points", "total", "at"]
theorem sc__law_size : FnScope N__law_size ["points"] (defScope s__law_size) := ⟨rfl, rfl, rfl, by decide +kernel, rfl, by decide +kernel, by decide +kernel⟩
abbrev s__law_meet : Stmt := (top 62)
abbrev N__law_meet : List Str := ["s", "t", "p", "one", "other"]
theorem sc__law_meet : FnScope N__law_meet ["s", "t"] (defScope s__law_meet) := ⟨rfl, rfl, rfl, by decide +kernel, rfl, by decide +kernel, by decide +kernel⟩
abbrev s__law_is_simple : Stmt := (top 63)
abbrev N__law_is_simple : List Str := ["points", "many", "at", "p", "q", "r", "edges", "other"]
theorem sc__law_is_simple : FnScope N__law_is_simple ["points"] (defScope s__law_is_simple) := ⟨rfl, rfl, rfl, by decide +kernel, rfl, by decide +kernel, by decide +kernel⟩
abbrev s__law_made : Stmt := (top 64)
abbrev N__law_made : List Str := ["points", "at"]
theorem sc__law_made : FnScope N__law_made ["points"] (defScope s__law_made) := ⟨rfl, rfl, rfl, by decide +kernel, rfl, by decide +kernel, by decide +kernel⟩
abbrev s__law_grown : Stmt := (top 65)
abbrev N__law_grown : List Str := ["stream", "far", "most", "points", "turn", "at", "longer", "k"]
theorem sc__law_grown : FnScope N__law_grown ["stream", "far", "most"] (defScope s__law_grown) := ⟨rfl, rfl, rfl, by decide +kernel, rfl, by decide +kernel, by decide +kernel⟩
abbrev s__law_image : Stmt := (top 66)
abbrev N__law_image : List Str := ["p", "how", "x", "y", "turn"]
theorem sc__law_image : FnScope N__law_image ["p", "how"] (defScope s__law_image) := ⟨rfl, rfl, rfl, by decide +kernel, rfl, by decide +kernel, by decide +kernel⟩
abbrev s__law_segment_image : Stmt := (top 67)
abbrev N__law_segment_image : List Str := ["s", "how", "a", "b"]
theorem sc__law_segment_image : FnScope N__law_segment_image ["s", "how"] (defScope s__law_segment_image) := ⟨rfl, rfl, rfl, by decide +kernel, rfl, by decide +kernel, by decide +kernel⟩
abbrev s__law_exact : Stmt := (top 68)
abbrev N__law_exact : List Str := ["x", "y", "how", "turn"]
theorem sc__law_exact : FnScope N__law_exact ["x", "y", "how"] (defScope s__law_exact) := ⟨rfl, rfl, rfl, by decide +kernel, rfl, by decide +kernel, by decide +kernel⟩
abbrev s_law : Stmt := (top 69)
abbrev N_law : List Str := ["script", "stream", "far", "how", "s", "t", "told", "due", "ring", "p", "image", "points", "corners", "k", "q"]
theorem sc_law : FnScope N_law ["script"] (defScope s_law) := ⟨rfl, rfl, rfl, by decide +kernel, rfl, by decide +kernel, by decide +kernel⟩
structure Txt (K : PySem.W.Frag) (mg : Str → Option Value) where
  a_is_whole : Addr
  d_is_whole : FuncData
  F_is_whole : Fun K "is_whole" "is_whole" s_is_whole a_is_whole d_is_whole
  m_is_whole : mg "is_whole" = some (.ref a_is_whole)
  b_is_whole : Binds K d_is_whole ["value"] []
  a_is_pair : Addr
  d_is_pair : FuncData
  F_is_pair : Fun K "is_pair" "is_pair" s_is_pair a_is_pair d_is_pair
  m_is_pair : mg "is_pair" = some (.ref a_is_pair)
  b_is_pair : Binds K d_is_pair ["value"] []
  a_need : Addr
  d_need : FuncData
  F_need : Fun K "need" "need" s_need a_need d_need
  m_need : mg "need" = some (.ref a_need)
  b_need : Binds K d_need ["holds", "name"] []
  a_lowest : Addr
  d_lowest : FuncData
  F_lowest : Fun K "lowest" "lowest" s_lowest a_lowest d_lowest
  m_lowest : mg "lowest" = some (.ref a_lowest)
  b_lowest : Binds K d_lowest ["n", "d"] []
  a_is_coordinate : Addr
  d_is_coordinate : FuncData
  F_is_coordinate : Fun K "is_coordinate" "is_coordinate" s_is_coordinate a_is_coordinate d_is_coordinate
  m_is_coordinate : mg "is_coordinate" = some (.ref a_is_coordinate)
  b_is_coordinate : Binds K d_is_coordinate ["value"] []
  a_is_point : Addr
  d_is_point : FuncData
  F_is_point : Fun K "is_point" "is_point" s_is_point a_is_point d_is_point
  m_is_point : mg "is_point" = some (.ref a_is_point)
  b_is_point : Binds K d_is_point ["value"] []
  a_is_segment : Addr
  d_is_segment : FuncData
  F_is_segment : Fun K "is_segment" "is_segment" s_is_segment a_is_segment d_is_segment
  m_is_segment : mg "is_segment" = some (.ref a_is_segment)
  b_is_segment : Binds K d_is_segment ["value"] []
  a_are_points : Addr
  d_are_points : FuncData
  cc_are_points : Addr
  P_are_points : Addr
  F_are_points : FunT K "are_points" "are_points" s_are_points a_are_points d_are_points cc_are_points
  m_are_points : mg "are_points" = some (.ref a_are_points)
  b_are_points : Binds K d_are_points ["value", "least", "most"] []
  a_joining : Addr
  d_joining : FuncData
  F_joining : Fun K "joining" "joining" s_joining a_joining d_joining
  m_joining : mg "joining" = some (.ref a_joining)
  b_joining : Binds K d_joining ["p", "q"] []
  a_edges_along : Addr
  d_edges_along : FuncData
  F_edges_along : Fun K "edges_along" "edges_along" s_edges_along a_edges_along d_edges_along
  m_edges_along : mg "edges_along" = some (.ref a_edges_along)
  b_edges_along : Binds K d_edges_along ["points"] []
  a_turn_of : Addr
  d_turn_of : FuncData
  F_turn_of : Fun K "turn_of" "turn_of" s_turn_of a_turn_of d_turn_of
  m_turn_of : mg "turn_of" = some (.ref a_turn_of)
  b_turn_of : Binds K d_turn_of ["a", "b", "c"] []
  a_is_on : Addr
  d_is_on : FuncData
  F_is_on : Fun K "is_on" "is_on" s_is_on a_is_on d_is_on
  m_is_on : mg "is_on" = some (.ref a_is_on)
  b_is_on : Binds K d_is_on ["p", "segment"] []
  a_crosses_east : Addr
  d_crosses_east : FuncData
  F_crosses_east : Fun K "crosses_east" "crosses_east" s_crosses_east a_crosses_east d_crosses_east
  m_crosses_east : mg "crosses_east" = some (.ref a_crosses_east)
  b_crosses_east : Binds K d_crosses_east ["p", "a", "b"] []
  a_are_apart : Addr
  d_are_apart : FuncData
  F_are_apart : Fun K "are_apart" "are_apart" s_are_apart a_are_apart d_are_apart
  m_are_apart : mg "are_apart" = some (.ref a_are_apart)
  b_are_apart : Binds K d_are_apart ["first", "second"] []
  a_meeting_on_line : Addr
  d_meeting_on_line : FuncData
  F_meeting_on_line : Fun K "meeting_on_line" "meeting_on_line" s_meeting_on_line a_meeting_on_line d_meeting_on_line
  m_meeting_on_line : mg "meeting_on_line" = some (.ref a_meeting_on_line)
  b_meeting_on_line : Binds K d_meeting_on_line ["first", "second"] []
  a_common_end : Addr
  d_common_end : FuncData
  F_common_end : Fun K "common_end" "common_end" s_common_end a_common_end d_common_end
  m_common_end : mg "common_end" = some (.ref a_common_end)
  b_common_end : Binds K d_common_end ["first", "second"] []
  a_cut_point : Addr
  d_cut_point : FuncData
  F_cut_point : Fun K "cut_point" "cut_point" s_cut_point a_cut_point d_cut_point
  m_cut_point : mg "cut_point" = some (.ref a_cut_point)
  b_cut_point : Binds K d_cut_point ["first", "before", "after"] []
  a_meeting_of : Addr
  d_meeting_of : FuncData
  F_meeting_of : Fun K "meeting_of" "meeting_of" s_meeting_of a_meeting_of d_meeting_of
  m_meeting_of : mg "meeting_of" = some (.ref a_meeting_of)
  b_meeting_of : Binds K d_meeting_of ["first", "second"] []
  a_meeting : Addr
  d_meeting : FuncData
  F_meeting : Fun K "meeting" "meeting" s_meeting a_meeting d_meeting
  m_meeting : mg "meeting" = some (.ref a_meeting)
  b_meeting : Binds K d_meeting ["first", "second"] []
  a_ways_around : Addr
  d_ways_around : FuncData
  F_ways_around : Fun K "ways_around" "ways_around" s_ways_around a_ways_around d_ways_around
  m_ways_around : mg "ways_around" = some (.ref a_ways_around)
  b_ways_around : Binds K d_ways_around ["points"] []
  a_area_around : Addr
  d_area_around : FuncData
  cc_area_around : Addr
  P_area_around : Addr
  F_area_around : FunT K "area_around" "area_around" s_area_around a_area_around d_area_around cc_area_around
  m_area_around : mg "area_around" = some (.ref a_area_around)
  b_area_around : Binds K d_area_around ["points"] []
  a_do_follow : Addr
  d_do_follow : FuncData
  F_do_follow : Fun K "do_follow" "do_follow" s_do_follow a_do_follow d_do_follow
  m_do_follow : mg "do_follow" = some (.ref a_do_follow)
  b_do_follow : Binds K d_do_follow ["i", "j", "many"] []
  a_is_simple : Addr
  d_is_simple : FuncData
  cc_is_simple : Addr
  P_is_simple : Addr
  F_is_simple : FunT K "is_simple" "is_simple" s_is_simple a_is_simple d_is_simple cc_is_simple
  m_is_simple : mg "is_simple" = some (.ref a_is_simple)
  b_is_simple : Binds K d_is_simple ["points"] []
  a_goes_around : Addr
  d_goes_around : FuncData
  F_goes_around : Fun K "goes_around" "goes_around" s_goes_around a_goes_around d_goes_around
  m_goes_around : mg "goes_around" = some (.ref a_goes_around)
  b_goes_around : Binds K d_goes_around ["value"] []
  a_is_ring : Addr
  d_is_ring : FuncData
  F_is_ring : Fun K "is_ring" "is_ring" s_is_ring a_is_ring d_is_ring
  m_is_ring : mg "is_ring" = some (.ref a_is_ring)
  b_is_ring : Binds K d_is_ring ["value"] []
  a_ring_of : Addr
  d_ring_of : FuncData
  F_ring_of : Fun K "ring_of" "ring_of" s_ring_of a_ring_of d_ring_of
  m_ring_of : mg "ring_of" = some (.ref a_ring_of)
  b_ring_of : Binds K d_ring_of ["points"] []
  a_place_in : Addr
  d_place_in : FuncData
  cc_place_in : Addr
  P_place_in : Addr
  F_place_in : FunT K "place_in" "place_in" s_place_in a_place_in d_place_in cc_place_in
  m_place_in : mg "place_in" = some (.ref a_place_in)
  b_place_in : Binds K d_place_in ["p", "ring"] []
  a_left_turns : Addr
  d_left_turns : FuncData
  F_left_turns : Fun K "left_turns" "left_turns" s_left_turns a_left_turns d_left_turns
  m_left_turns : mg "left_turns" = some (.ref a_left_turns)
  b_left_turns : Binds K d_left_turns ["points"] []
  a_hull_of : Addr
  d_hull_of : FuncData
  F_hull_of : Fun K "hull_of" "hull_of" s_hull_of a_hull_of d_hull_of
  m_hull_of : mg "hull_of" = some (.ref a_hull_of)
  b_hull_of : Binds K d_hull_of ["points"] []
  a__law_stream : Addr
  d__law_stream : FuncData
  F__law_stream : Fun K "_law_stream" "_law_stream" s__law_stream a__law_stream d__law_stream
  m__law_stream : mg "_law_stream" = some (.ref a__law_stream)
  b__law_stream : Binds K d__law_stream ["script"] []
  a__law_next : Addr
  d__law_next : FuncData
  F__law_next : Fun K "_law_next" "_law_next" s__law_next a__law_next d__law_next
  m__law_next : mg "_law_next" = some (.ref a__law_next)
  b__law_next : Binds K d__law_next ["stream", "many"] []
  a__law_is_integer : Addr
  d__law_is_integer : FuncData
  F__law_is_integer : Fun K "_law_is_integer" "_law_is_integer" s__law_is_integer a__law_is_integer d__law_is_integer
  m__law_is_integer : mg "_law_is_integer" = some (.ref a__law_is_integer)
  b__law_is_integer : Binds K d__law_is_integer ["actual"] []
  a__law_gcd : Addr
  d__law_gcd : FuncData
  F__law_gcd : Fun K "_law_gcd" "_law_gcd" s__law_gcd a__law_gcd d__law_gcd
  m__law_gcd : mg "_law_gcd" = some (.ref a__law_gcd)
  b__law_gcd : Binds K d__law_gcd ["a", "b"] []
  a__law_low : Addr
  d__law_low : FuncData
  F__law_low : Fun K "_law_low" "_law_low" s__law_low a__law_low d__law_low
  m__law_low : mg "_law_low" = some (.ref a__law_low)
  b__law_low : Binds K d__law_low ["n", "d"] []
  a__law_plus : Addr
  d__law_plus : FuncData
  F__law_plus : Fun K "_law_plus" "_law_plus" s__law_plus a__law_plus d__law_plus
  m__law_plus : mg "_law_plus" = some (.ref a__law_plus)
  b__law_plus : Binds K d__law_plus ["a", "b"] []
  a__law_equal : Addr
  d__law_equal : FuncData
  F__law_equal : Fun K "_law_equal" "_law_equal" s__law_equal a__law_equal d__law_equal
  m__law_equal : mg "_law_equal" = some (.ref a__law_equal)
  b__law_equal : Binds K d__law_equal ["actual", "due"] []
  a__law_turn : Addr
  d__law_turn : FuncData
  F__law_turn : Fun K "_law_turn" "_law_turn" s__law_turn a__law_turn d__law_turn
  m__law_turn : mg "_law_turn" = some (.ref a__law_turn)
  b__law_turn : Binds K d__law_turn ["a", "b", "c"] []
  a__law_sign : Addr
  d__law_sign : FuncData
  F__law_sign : Fun K "_law_sign" "_law_sign" s__law_sign a__law_sign d__law_sign
  m__law_sign : mg "_law_sign" = some (.ref a__law_sign)
  b__law_sign : Binds K d__law_sign ["n"] []
  a__law_between : Addr
  d__law_between : FuncData
  F__law_between : Fun K "_law_between" "_law_between" s__law_between a__law_between d__law_between
  m__law_between : mg "_law_between" = some (.ref a__law_between)
  b__law_between : Binds K d__law_between ["p", "a", "b"] []
  a__law_point : Addr
  d__law_point : FuncData
  F__law_point : Fun K "_law_point" "_law_point" s__law_point a__law_point d__law_point
  m__law_point : mg "_law_point" = some (.ref a__law_point)
  b__law_point : Binds K d__law_point ["stream", "far"] []
  a__law_segment : Addr
  d__law_segment : FuncData
  F__law_segment : Fun K "_law_segment" "_law_segment" s__law_segment a__law_segment d__law_segment
  m__law_segment : mg "_law_segment" = some (.ref a__law_segment)
  b__law_segment : Binds K d__law_segment ["stream", "far"] []
  a__law_edges : Addr
  d__law_edges : FuncData
  F__law_edges : Fun K "_law_edges" "_law_edges" s__law_edges a__law_edges d__law_edges
  m__law_edges : mg "_law_edges" = some (.ref a__law_edges)
  b__law_edges : Binds K d__law_edges ["points"] []
  a__law_size : Addr
  d__law_size : FuncData
  F__law_size : Fun K "_law_size" "_law_size" s__law_size a__law_size d__law_size
  m__law_size : mg "_law_size" = some (.ref a__law_size)
  b__law_size : Binds K d__law_size ["points"] []
  a__law_meet : Addr
  d__law_meet : FuncData
  F__law_meet : Fun K "_law_meet" "_law_meet" s__law_meet a__law_meet d__law_meet
  m__law_meet : mg "_law_meet" = some (.ref a__law_meet)
  b__law_meet : Binds K d__law_meet ["s", "t"] []
  a__law_is_simple : Addr
  d__law_is_simple : FuncData
  F__law_is_simple : Fun K "_law_is_simple" "_law_is_simple" s__law_is_simple a__law_is_simple d__law_is_simple
  m__law_is_simple : mg "_law_is_simple" = some (.ref a__law_is_simple)
  b__law_is_simple : Binds K d__law_is_simple ["points"] []
  a__law_made : Addr
  d__law_made : FuncData
  F__law_made : Fun K "_law_made" "_law_made" s__law_made a__law_made d__law_made
  m__law_made : mg "_law_made" = some (.ref a__law_made)
  b__law_made : Binds K d__law_made ["points"] []
  a__law_grown : Addr
  d__law_grown : FuncData
  F__law_grown : Fun K "_law_grown" "_law_grown" s__law_grown a__law_grown d__law_grown
  m__law_grown : mg "_law_grown" = some (.ref a__law_grown)
  b__law_grown : Binds K d__law_grown ["stream", "far", "most"] []
  a__law_image : Addr
  d__law_image : FuncData
  F__law_image : Fun K "_law_image" "_law_image" s__law_image a__law_image d__law_image
  m__law_image : mg "_law_image" = some (.ref a__law_image)
  b__law_image : Binds K d__law_image ["p", "how"] []
  a__law_segment_image : Addr
  d__law_segment_image : FuncData
  F__law_segment_image : Fun K "_law_segment_image" "_law_segment_image" s__law_segment_image a__law_segment_image d__law_segment_image
  m__law_segment_image : mg "_law_segment_image" = some (.ref a__law_segment_image)
  b__law_segment_image : Binds K d__law_segment_image ["s", "how"] []
  a__law_exact : Addr
  d__law_exact : FuncData
  F__law_exact : Fun K "_law_exact" "_law_exact" s__law_exact a__law_exact d__law_exact
  m__law_exact : mg "_law_exact" = some (.ref a__law_exact)
  b__law_exact : Binds K d__law_exact ["x", "y", "how"] []
  a_law : Addr
  d_law : FuncData
  F_law : Fun K "law" "law" s_law a_law d_law
  m_law : mg "law" = some (.ref a_law)
  b_law : Binds K d_law ["script"] []
  n_abs : mg "abs" = none
  n_all : mg "all" = none
  n_any : mg "any" = none
  n_bool : mg "bool" = none
  n_int : mg "int" = none
  n_isinstance : mg "isinstance" = none
  n_len : mg "len" = none
  n_list : mg "list" = none
  n_max : mg "max" = none
  n_min : mg "min" = none
  n_range : mg "range" = none
  n_set : mg "set" = none
  n_sorted : mg "sorted" = none
  n_str : mg "str" = none
  n_sum : mg "sum" = none
  n_tuple : mg "tuple" = none
  n_zip : mg "zip" = none
  c_HIGHEST : ∃ t, mg "HIGHEST" = some (.int (1000) t)
  c_LEAST_OF_RING : ∃ t, mg "LEAST_OF_RING" = some (.int (3) t)
  c_LOWEST : ∃ t, mg "LOWEST" = some (.int (-1000) t)
  c_MOST_OF_HULL : ∃ t, mg "MOST_OF_HULL" = some (.int (60) t)
  c_MOST_OF_RING : ∃ t, mg "MOST_OF_RING" = some (.int (40) t)
  n_gcd : mg "gcd" = some (.builtin "math.gcd")
  C_BadValue : Addr
  i_BadValue : Addr
  bv : PySem.BvX.BvTxt K mg C_BadValue i_BadValue
/-- the tables of the defs that hold generator expressions -/
def Txt.ts {K : PySem.W.Frag} {mg : Str → Option Value} (T : Txt K mg) : List Addr := [T.P_are_points, T.P_area_around, T.P_is_simple, T.P_place_in]
structure TxtB {K : PySem.W.Frag} {mg : Str → Option Value} (T : Txt K mg) (base : Heap) (w : World) : Prop where
  t_are_points : GxR.TabB base mg T.cc_are_points T.P_are_points
  t_area_around : GxR.TabB base mg T.cc_area_around T.P_area_around
  t_is_simple : GxR.TabB base mg T.cc_is_simple T.P_is_simple
  t_place_in : GxR.TabB base mg T.cc_place_in T.P_place_in
section
variable {P : Program} {w : World} {K : PySem.W.Frag} {mg : Str → Option Value} {base : Heap}
theorem ok_is_whole (T : Txt K mg) (TB : TxtB T base w) : FnOk P w K mg base CX0 1 T.a_is_whole T.d_is_whole ["value"] (fun vs H Q _ => ∃ x n, vs = [x] ∧ Ty K H x n ∧ Q (.bl (n == "int")) H) := by
  refine T.F_is_whole.ok sc_is_whole (fun vs H Q E h => ?_) (fun cdv A outer s H vs Q E hr h => ?_)
  · obtain ⟨x, n, rfl, hx, k⟩ := h
    rfl
  · obtain ⟨x, n, rfl, hx, k⟩ := h
    refine ⟨_, (pss_one (ps_ret (pe_and (pe_callB call_isi (by rfl) T.n_isinstance (by decide +kernel) (pa_cons (pv 0) (pa_cons (pe_bltn (v := .ty "int") (by rfl) T.n_int (by decide +kernel) rfl) pa_nil))) (pe_one (pe_not (pe_callB call_isi (by rfl) T.n_isinstance (by decide +kernel) (pa_cons (pv 0) (pa_cons (pe_bltn (v := .ty "bool") (by rfl) T.n_bool (by decide +kernel) rfl) pa_nil)))))))), ?_⟩
    refine ⟨_, rfl, ⟨_, _, _, _, _, rfl, .ty _, (hx).x, isaN (Ty.six hx) (by simp [My.six]), ⟨_, rfl, ?_⟩⟩⟩
    cases hx
    all_goals first | (refine ifTr (by decide) ?_) | (refine ifFa (by decide) ?_; exact k)
    · exact ⟨_, rfl, ⟨_, _, _, _, _, rfl, .ty _, ((Ty.bl _)).x, isaN (by simp [My.six]) (by simp [My.six]), ⟨_, rfl, k⟩⟩⟩
    · exact ⟨_, rfl, ⟨_, _, _, _, _, rfl, .ty _, ((Ty.int _)).x, isaN (by simp [My.six]) (by simp [My.six]), ⟨_, rfl, k⟩⟩⟩
theorem ok_is_pair (T : Txt K mg) (TB : TxtB T base w) : FnOk P w K mg base CX0 1 T.a_is_pair T.d_is_pair ["value"] (fun vs H Q _ => ∃ x n, vs = [x] ∧ Ty K H x n ∧ (n = "tuple" → ∃ a xs, x = .ref a ∧ SqT K H a xs ∧ Q (.bl (xs.length == 2)) H) ∧ (n ≠ "tuple" → Q (.bl false) H)) := by
  refine T.F_is_pair.ok sc_is_pair (fun vs H Q E h => ?_) (fun cdv A outer s H vs Q E hr h => ?_)
  · obtain ⟨x, n, rfl, hx, k1, k2⟩ := h
    rfl
  · obtain ⟨x, n, rfl, hx, k1, k2⟩ := h
    refine ⟨_, (pss_one (ps_ret (pe_and (pe_callB call_isi (by rfl) T.n_isinstance (by decide +kernel) (pa_cons (pv 0) (pa_cons (pe_bltn (v := .ty "tuple") (by rfl) T.n_tuple (by decide +kernel) rfl) pa_nil))) (pe_one (pe_cmpR op_eq (pe_callB call_len (by rfl) T.n_len (by decide +kernel) (pa_cons (pv 0) pa_nil)) pe_int (nomark _)))))), ?_⟩
    refine ⟨_, rfl, ⟨_, _, _, _, _, rfl, .ty _, (hx).x, isaN (Ty.six hx) (by simp [My.six]), ⟨_, rfl, ?_⟩⟩⟩
    by_cases e : n = "tuple"
    · subst e
      refine ifTr (by decide) ?_
      obtain ⟨a, xs, rfl, ht, k⟩ := k1 rfl
      refine ⟨_, rfl, _, _, rfl, .inr ⟨xs, ht, rfl⟩, rfl, ?_⟩
      have e : decide (V.int (xs.length : Int) = V.int 2) = (xs.length == 2) := by
        by_cases q : xs.length = 2
        · rw [q]; rfl
        · rw [beq_false_of_ne q]; exact decide_eq_false fun z => q (by injection z with z; omega)
      rw [e]
      exact k
    · refine ifFa ?_ (k2 e)
      cases hx <;> first | rfl | exact absurd rfl e
theorem ok_need (T : Txt K mg) (TB : TxtB T base w) : FnOk P w K mg base CX0 2 T.a_need T.d_need ["holds", "name"] (fun vs H Q _ => ∃ b x, vs = [.bl b, x] ∧ b = true ∧ Q .non H) := by
  refine T.F_need.ok sc_need (fun vs H Q E h => ?_) (fun cdv A outer s H vs Q E hr h => ?_)
  · obtain ⟨b, x, rfl, rfl, k⟩ := h
    rfl
  · obtain ⟨b, x, rfl, rfl, k⟩ := h
    refine ⟨_, (pss_one (ps_if (pt_not (pt_val (pv 0)))
        (pss_one ps_never)
        pss_nil)), ?_⟩
    exact ⟨_, rfl, _, rfl, iteF k⟩
theorem ok_lowest (T : Txt K mg) (TB : TxtB T base w) : FnOk P w K mg base CX0 1 T.a_lowest T.d_lowest ["n", "d"] (fun vs H Q _ => ∃ n d : Int, vs = [.int n, .int d] ∧ d ≠ 0 ∧ n.natAbs ≤ 2 ^ 200 ∧ d.natAbs ≤ 2 ^ 200 ∧ ∀ p, H p = none → Q (.ref p) (upd H p (.tup [.int (lowN n d), .int (lowD n d)]))) := by
  refine T.F_lowest.ok sc_lowest (fun vs H Q E h => ?_) (fun cdv A outer s H vs Q E hr h => ?_)
  · obtain ⟨n, d, rfl, d0, h1, h2, k⟩ := h
    rfl
  · obtain ⟨n, d, rfl, d0, h1, h2, k⟩ := h
    refine ⟨_, (pss_cons (ps_set (i := 2) sc_lowest.nd rfl (Or.inl rfl) (pe_callBfun cr_gcd (by rfl) T.n_gcd (pa_cons (pv 0) (pa_cons (pv 1) pa_nil))))
      (C8.pss_cut (ps_if (pt_cmpR op_lt (pv 1) pe_int (nomark _))
        (pss_one (ps_set (i := 2) sc_lowest.nd rfl (Or.inl rfl) (pe_un un_neg (pv 2))))
        pss_nil)
      (pss_one (ps_ret (pe_tup (pa_cons (pe_op op_fdivV (pv 0) (pv 2)) (pa_cons (pe_op op_fdivV (pv 1) (pv 2)) pa_nil))))))), ?_⟩
    refine ⟨_, rfl, _, rfl, _, _, rfl, ?_⟩
    have hb := Nat.le_trans (sgcd_le (n := n) d0) h2
    refine ⟨fun σ' H' => H' = H ∧ σ' = [some (.int n), some (.int d), some (.int (sgcd n d))], ?_, ?_⟩
    · refine ⟨_, rfl, _, _, rfl, rfl, _, rfl, ifD (fun e => ?_) (fun e => ?_)⟩
      · refine ⟨_, rfl, _, rfl, ?_⟩
        exact ⟨rfl, by rw [sgcd, if_pos e, Int.zero_sub]; rfl⟩
      · exact ⟨rfl, by rw [sgcd, if_neg e]; rfl⟩
    · rintro σ' H' ⟨rfl, rfl⟩
      exact ⟨_, rfl, _, rfl, _, _, rfl, rfl, ⟨sgcd_ne d0, pow200 hb⟩, _, rfl, _, rfl, _, _, rfl, rfl, ⟨sgcd_ne d0, pow200 hb⟩, small rfl, fun p hp => k p hp⟩
theorem ok_is_coordinate (T : Txt K mg) (TB : TxtB T base w) : FnOk P w K mg base CX0 2 T.a_is_coordinate T.d_is_coordinate ["value"] (fun vs H Q _ => ∃ x n, vs = [x] ∧ Ty K H x n ∧ Q (.bl (coordB x)) H) := by
  refine T.F_is_coordinate.ok sc_is_coordinate (fun vs H Q E h => ?_) (fun cdv A outer s H vs Q E hr h => ?_)
  · obtain ⟨x, n, rfl, hx, k⟩ := h
    rfl
  · obtain ⟨x, n, rfl, hx, k⟩ := h
    refine ⟨_, (pss_one (ps_ret (pe_and (pe_call (ok_is_whole T TB) (hr.mono (by omega)) rfl T.m_is_whole T.F_is_whole.kp T.b_is_whole .nil pass0 (pa_cons (pv 0) pa_nil)) (pe_one (pe_chain op_le op_le (pe_gI T.c_LOWEST) (pv 0) (pe_gI T.c_HIGHEST)))))), ?_⟩
    refine ⟨_, rfl, _, _, rfl, hx, ⟨_, rfl, ?_⟩⟩
    cases hx
    all_goals first | (refine ifTr (by decide) ?_) | (refine ifFa (by decide) ?_; exact k)
    rename_i i
    refine ⟨_, rfl, _, _, rfl, rfl, ⟨_, rfl, ?_⟩⟩
    refine ifB (fun e => ?_) (fun e => ?_)
    · refine ⟨_, _, rfl, rfl, ?_⟩
      rw [show coordB (.int i) = (decide (-1000 ≤ i) && decide (i ≤ 1000)) from rfl, e, Bool.true_and] at k
      exact k
    · rw [show coordB (.int i) = (decide (-1000 ≤ i) && decide (i ≤ 1000)) from rfl, e, Bool.false_and] at k
      exact k
theorem ok_is_point (T : Txt K mg) (TB : TxtB T base w) : FnOk P w K mg base CX0 3 T.a_is_point T.d_is_point ["value"] (fun vs H Q _ => ∃ x b, vs = [x] ∧ PV K H x b ∧ Q (.bl b) H) := by
  refine T.F_is_point.ok sc_is_point (fun vs H Q E h => ?_) (fun cdv A outer s H vs Q E hr h => ?_)
  · obtain ⟨x, b, rfl, ⟨n, hx, h1, h2⟩, k⟩ := h
    rfl
  · obtain ⟨x, b, rfl, ⟨n, hx, h1, h2⟩, k⟩ := h
    refine ⟨_, (pss_one (ps_ret (pe_and (pe_call (ok_is_pair T TB) (hr.mono (by omega)) rfl T.m_is_pair T.F_is_pair.kp T.b_is_pair .nil pass0 (pa_cons (pv 0) pa_nil)) (pe_and (pe_call (ok_is_coordinate T TB) (hr.mono (by omega)) rfl T.m_is_coordinate T.F_is_coordinate.kp T.b_is_coordinate .nil pass0 (pa_cons (pe_ix (r := rIxT K) ix_tup (pv 0) pe_int (fun _ _ => rfl)) pa_nil)) (pe_one (pe_call (ok_is_coordinate T TB) (hr.mono (by omega)) rfl T.m_is_coordinate T.F_is_coordinate.kp T.b_is_coordinate .nil pass0 (pa_cons (pe_ix (r := rIxT K) ix_tup (pv 0) pe_int (fun _ _ => rfl)) pa_nil))))))), ?_⟩
    have k1 : n = "tuple" → ∃ a xs, x = .ref a ∧ SqT K H a xs ∧ (∀ v ∈ xs, ∃ m, Ty K H v m) ∧ Q (.bl (pointB xs)) H := fun e => by
      obtain ⟨a, xs, e1, e2, e3, e4⟩ := h1 e
      exact ⟨a, xs, e1, e2, e3, by rw [← e4]; exact k⟩
    have k2 : n ≠ "tuple" → Q (.bl false) H := fun e => by rw [← h2 e]; exact k
    refine ⟨_, rfl, _, _, rfl, hx, fun e => ?_, fun e => ?_⟩
    · obtain ⟨a, xs, rfl, ht, hm, k⟩ := k1 e
      refine ⟨a, xs, rfl, ht, _, rfl, ?_⟩
      match xs, ht, hm, k with
      | [], _, _, k => exact iteF k
      | [_], _, _, k => exact iteF k
      | [u, v], ht, hm, k =>
        refine iteT ?_
        obtain ⟨m1, t1⟩ := hm u (by simp)
        obtain ⟨m2, t2⟩ := hm v (by simp)
        refine ⟨_, rfl, _, _, _, _, rfl, rfl, ht, at0, _, _, rfl, t1, _, rfl, ?_⟩
        rw [show pointB [u, v] = (coordB u && coordB v) from rfl] at k
        refine ifB (fun e => ?_) (fun e => ?_)
        · refine ⟨_, rfl, _, _, _, _, rfl, rfl, ht, at1, _, _, rfl, t2, ?_⟩
          rw [e, Bool.true_and] at k
          exact k
        · rw [e, Bool.false_and] at k
          exact k
      | _ :: _ :: _ :: r, _, _, k =>
        refine ifFa ?_ k
        exact beq_false_of_ne (by simp)
    · exact ⟨_, rfl, iteF (k2 e)⟩
theorem ok_is_segment (T : Txt K mg) (TB : TxtB T base w) : FnOk P w K mg base CX0 4 T.a_is_segment T.d_is_segment ["value"] (fun vs H Q _ => ∃ (g a c : Addr) (ax ay bx dy : Int), vs = [.ref g] ∧ SegAt K H g a c ax ay bx dy ∧ Q (.bl true) H) := by
  refine T.F_is_segment.ok sc_is_segment (fun vs H Q E h => ?_) (fun cdv A outer s H vs Q E hr h => ?_)
  · obtain ⟨g, a, c, ax, ay, bx, dy, rfl, hg, k⟩ := h
    rfl
  · obtain ⟨g, a, c, ax, ay, bx, dy, rfl, hg, k⟩ := h
    refine ⟨_, (pss_one (ps_ret (pe_and (pe_call (ok_is_pair T TB) (hr.mono (by omega)) rfl T.m_is_pair T.F_is_pair.kp T.b_is_pair .nil pass0 (pa_cons (pv 0) pa_nil)) (pe_and (pe_call (ok_is_point T TB) (hr.mono (by omega)) rfl T.m_is_point T.F_is_point.kp T.b_is_point .nil pass0 (pa_cons (pe_ix (r := rIxT K) ix_tup (pv 0) pe_int (fun _ _ => rfl)) pa_nil)) (pe_and (pe_call (ok_is_point T TB) (hr.mono (by omega)) rfl T.m_is_point T.F_is_point.kp T.b_is_point .nil pass0 (pa_cons (pe_ix (r := rIxT K) ix_tup (pv 0) pe_int (fun _ _ => rfl)) pa_nil)) (pe_one (pe_cmpR (op_ltP hr.units0) (pe_ix (r := rIxT K) ix_tup (pv 0) pe_int (fun _ _ => rfl)) (pe_ix (r := rIxT K) ix_tup (pv 0) pe_int (fun _ _ => rfl)) (nomark _)))))))), ?_⟩
    refine ⟨_, rfl, _, _, rfl, Ty.tup hg.g, fun _ => ⟨_, _, rfl, hg.g, _, rfl, ?_⟩, fun e => absurd rfl e⟩
    refine ⟨_, rfl, _, _, _, _, rfl, rfl, hg.g, at0, _, _, rfl, .pt hg.a hg.oa, _, rfl, ?_⟩
    refine ⟨_, rfl, _, _, _, _, rfl, rfl, hg.g, at1, _, _, rfl, .pt hg.c hg.oc, _, rfl, ?_⟩
    refine ⟨_, rfl, _, _, _, _, rfl, rfl, hg.g, at0, _, rfl, _, _, _, _, rfl, rfl, hg.g, at1, _, _, _, _, _, _, rfl, rfl, hg.a, hg.c, ?_⟩
    have k : Q (.bl (ltP ax ay bx dy)) H := by rw [hg.lt]; exact k
    exact k
theorem ok_are_points (T : Txt K mg) (TB : TxtB T base w) : FnOk P w K mg base CX0 7 T.a_are_points T.d_are_points ["value", "least", "most"] (fun vs H Q _ => ∃ x b lo hi, vs = [x, .int lo, .int hi] ∧ AV K lo hi H x b ∧ Tbs T.ts H ∧ ∀ H', Same H H' → Q (.bl b) H') := by
  refine T.F_are_points.ok sc_are_points (fun vs H Q E h => ?_) (fun A outer s H vs Q E hr h => ?_)
  · obtain ⟨x, b, lo, hi, rfl, ⟨n, hx, h1, h2⟩, tb, k⟩ := h
    rfl
  · obtain ⟨x, b, lo, hi, rfl, ⟨n, hx, h1, h2⟩, tb, k⟩ := h
    refine ⟨_, (pss_one (ps_ret (pe_and (pe_callB call_isi (by rfl) T.n_isinstance (by decide +kernel) (pa_cons (pv 0) (pa_cons (pe_bltn (v := .ty "tuple") (by rfl) T.n_tuple (by decide +kernel) rfl) pa_nil))) (pe_and (pe_chain op_le op_le (pv 1) (pe_callB call_len (by rfl) T.n_len (by decide +kernel) (pa_cons (pv 0) pa_nil)) (pv 2)) (pe_one (Gx.pe_gen false (own := [("p", 3)]) (g := gName 3) (tt := tYes) (x := "p") (k := 3) rfl (hr.mono (by omega)) rfl sc_are_points.nd rfl T.n_all TB.t_are_points rfl (Gx.genS_by rfl rfl (by decide +kernel) rfl rfl (by rfl)) (blkOk_by (own := [("p", 3)]) (N := N_are_points) (sc := defScope s_are_points) (by decide +kernel)) (pi_tup (pv 0)) (fun _ _ _ _ _ _ _ hB => (pg_name (i := 3) sc_are_points.nd rfl (Or.inl rfl))) (fun _ _ _ _ _ _ _ hB => pts_nil) (fun _ _ _ _ _ _ _ hB => (pe_call (ok_is_point T TB) (hB.mono (by omega)) rfl T.m_is_point T.F_is_point.kp T.b_is_point .nil pass0 (pa_cons (pv 3) pa_nil))) (fun _ => rfl))))))), ?_⟩
    refine ⟨_, rfl, _, _, _, _, _, rfl, .ty _, hx.x, isaN hx.six (by simp [My.six]), _, rfl, ?_⟩
    by_cases e : n = "tuple"
    rotate_left
    · rw [h2 e] at k
      refine ifFa ?_ (k _ (Same.refl _))
      cases hx <;> first | rfl | exact absurd rfl e
    subst e
    refine ifTr (by decide) ?_
    obtain ⟨a, xs, bs, rfl, ht, hl, hb, hr, rfl⟩ := h1 rfl
    refine ⟨_, rfl, _, rfl, _, _, rfl, .inr ⟨_, ht, rfl⟩, _, _, rfl, rfl, _, rfl, ?_⟩
    refine ifB (fun e1 => ?_) (fun e1 => ?_)
    rotate_left
    · have k := k _ (Same.refl _)
      rw [e1, Bool.false_and, Bool.false_and] at k
      exact ⟨_, rfl, iteF k⟩
    refine ⟨_, rfl, _, _, rfl, rfl, _, rfl, ?_⟩
    refine ifB (fun e2 => ?_) (fun e2 => ?_)
    rotate_left
    · have k := k _ (Same.refl _)
      rw [e2, Bool.and_false, Bool.false_and] at k
      exact k
    have kq : ∀ H', Same H H' → Q (.bl (bs.all id)) H' := fun H' s => by
      have := k H' s
      rw [e1, e2, Bool.true_and, Bool.true_and] at this
      exact this
    refine ⟨_, rfl, _, rfl, ⟨_, ht⟩, tb _ (by simp [Txt.ts]), fun H2 g2 => ?_⟩
    have s2 := same_tab (tb _ (by simp [Txt.ts])) g2
    refine Gx.gen_walk walk_tup (fun i H' => Same H H' ∧ ∀ j c, j < i → bs[j]? = some c → c = true) ⟨s2, fun j c h => absurd h (Nat.not_lt_zero _)⟩ (fun i H' h => tSame h.1 ht) ?_ ?_
    · rintro i x H3 H4 hi ⟨s3, ha⟩ ⟨rfl, hxi⟩
      refine ⟨rfl, yesI ?_⟩
      refine iteT ?_
      have hbi : bs[i]? = some bs[i] := List.getElem?_eq_getElem (by omega)
      refine ⟨_, rfl, _, _, rfl, (hr i x _ hxi hbi).same s3, _, rfl, ?_⟩
      by_cases q : bs[i] = false
      · refine (if_pos q).mpr ?_
        have := kq _ s3
        rw [show bs.all id = false from List.all_eq_false.mpr ⟨bs[i], List.mem_of_getElem? hbi, by rw [q]; decide⟩] at this
        exact this
      · refine (if_neg q).mpr ⟨s3, fun j c hj hc => ?_⟩
        by_cases z : j = i
        · subst z
          rw [hbi] at hc
          cases hc
          cases w : bs[j] with
          | true => rfl
          | false => exact absurd w q
        · exact ha j c (by omega) hc
    · rintro H3 ⟨s3, ha⟩
      have := kq _ s3
      rw [show bs.all id = true from all_get.mpr fun i c h => by have q := (List.getElem?_eq_some_iff.mp h).1; exact ha i c (by omega) h] at this
      exact this
theorem ok_joining (T : Txt K mg) (TB : TxtB T base w) : FnOk P w K mg base CX0 1 T.a_joining T.d_joining ["p", "q"] (fun vs H Q _ => ∃ (u w : Zp), vs = [.ref u.1, .ref w.1] ∧ SqT K H u.1 [.int u.2.1, .int u.2.2] ∧ SqT K H w.1 [.int w.2.1, .int w.2.2] ∧ On u.2.1 u.2.2 ∧ On w.2.1 w.2.2 ∧ ¬ (u.2.1 = w.2.1 ∧ u.2.2 = w.2.2) ∧ ∀ g xs, H g = none → EdgeAt K (upd H g (.tup xs)) g u w → Q (.ref g) (upd H g (.tup xs))) := by
  refine T.F_joining.ok sc_joining (fun vs H Q E h => ?_) (fun cdv A outer s H vs Q E hr h => ?_)
  · obtain ⟨u, w, rfl, hu, hw, ou, ow, ne, k⟩ := h
    rfl
  · obtain ⟨u, w, rfl, hu, hw, ou, ow, ne, k⟩ := h
    refine ⟨_, (pss_one (ps_ret (pe_ifExp (pt_cmpR (op_ltP hr.units0) (pv 0) (pv 1) (nomark _)) (pe_tup (pa_cons (pv 0) (pa_cons (pv 1) pa_nil))) (pe_tup (pa_cons (pv 1) (pa_cons (pv 0) pa_nil)))))), ?_⟩
    refine ⟨_, rfl, _, rfl, _, _, _, _, _, _, rfl, rfl, hu, hw, _, rfl, ifB (fun e => ?_) (fun e => ?_)⟩
    · exact ⟨_, rfl, _, rfl, small rfl, fun g hg => k g _ hg (.inl ⟨tHere, tOver hg hu, tOver hg hw, ou, ow, e⟩)⟩
    · exact ⟨_, rfl, _, rfl, small rfl, fun g hg => k g _ hg (.inr ⟨tHere, tOver hg hw, tOver hg hu, ow, ou, ltP_or ne e⟩)⟩
theorem ok_edges_along (T : Txt K mg) (TB : TxtB T base w) : FnOk P w K mg base CX0 2 T.a_edges_along T.d_edges_along ["points"] (fun vs H Q _ => ∃ (a : Addr) (zs : List Zp), vs = [.ref a] ∧ LnAt K H a zs ∧ 2 ≤ zs.length ∧ zs.length ≤ 900 ∧ Ne zs ∧ ∀ (l : Addr) (gs : List Addr) H', Same H H' → SqL K H' l (gs.map V.ref) → gs.length + 1 = zs.length → (∀ (i : Nat) g u w, gs[i]? = some g → zs[i]? = some u → zs[i + 1]? = some w → EdgeAt K H' g u w) → Q (.ref l) H') := by
  refine T.F_edges_along.ok sc_edges_along (fun vs H Q E h => ?_) (fun cdv A outer s H vs Q E hr h => ?_)
  · obtain ⟨a, zs, rfl, ha, l1, l2, hne, k⟩ := h
    rfl
  · obtain ⟨a, zs, rfl, ha, l1, l2, hne, k⟩ := h
    refine ⟨_, (pss_one (ps_ret (pe_lc (own := [("p", 1), ("q", 2)]) (g := gTup K 2 (gCons (gName 1) (gCons (gName 2) gNil))) (tt := tYes) rfl sc_edges_along.nd (RZ.pi_zipA rfl T.n_zip (pa_cons (pv 0) (pa_cons (pe_slice sl_tupA (pv 0) (po_some pe_int) po_none) pa_nil))) (blkOk_by (own := [("p", 1), ("q", 2)]) (N := N_edges_along) (sc := defScope s_edges_along) (by decide +kernel)) (fun _ _ _ _ _ => (pg_tup (by rfl) (pgs_cons (pg_name (i := 1) sc_edges_along.nd rfl (Or.inl rfl)) (pgs_cons (pg_name (i := 2) sc_edges_along.nd rfl (Or.inl rfl)) pgs_nil)))) (fun _ _ _ _ _ => pts_nil) (fun _ _ _ _ _ => (pe_call (ok_joining T TB) (hr.mono (by omega)) rfl T.m_joining T.F_joining.kp T.b_joining .nil pass0 (pa_cons (pv 1) (pa_cons (pv 2) pa_nil))))))), ?_⟩
    refine ⟨_, rfl, _, rfl, _, rfl, ?_⟩
    refine noPart (slA_of ha.t fun q H2 s2 hq => ?_)
    rw [show ((1 : Int)) = ((1 : Nat) : Int) from rfl, cut_drop] at hq
    have ha2 := ha.same s2
    refine ⟨_, _, _, _, rfl, .inr ⟨ha2.t, hq, fun D hD => lc_it (walk_zipT (xs := refs zs) (ys := (refs zs).drop 1) rfl) (fun i H' => ∃ gs : List Addr, Same H2 H' ∧ H' D = some (.lst (gs.map V.ref)) ∧ gs.length = i ∧ ∀ (j : Nat) g u w, gs[j]? = some g → zs[j]? = some u → zs[j + 1]? = some w → EdgeAt K H' g u w) ⟨[], same_new hD, upd_same, rfl, fun j g u w h => by cases h⟩ (fun i H' _ h => ?_) ?_ ?_⟩⟩
    · obtain ⟨_, s3, _⟩ := h
      exact ⟨tSame s3 ha2.t, tSame s3 hq⟩
    · rintro i x H4 H5 hi ⟨gs, s4, hD4, hl, hg⟩ ⟨T1, x1, x2, rfl, hT, rfl, f1, f2⟩
      have f1 : (refs zs)[i]? = some x1 := f1
      have f2 : ((refs zs).drop 1)[i]? = some x2 := f2
      rw [List.getElem?_map] at f1
      rw [List.getElem?_drop, List.getElem?_map, Nat.add_comm] at f2
      obtain ⟨u, g1, rfl⟩ := Option.map_eq_some_iff.mp f1
      obtain ⟨w2, g2, rfl⟩ := Option.map_eq_some_iff.mp f2
      have s5 := same_new (o := HO.tup [V.ref u.1, V.ref w2.1]) hT
      have s45 := s4.trans s5
      have ha5 := ha2.same s45
      refine ⟨_, _, rfl, tHere, rfl, _, _, rfl, _, _, rfl, rfl, ⟨rfl, yesI ?_⟩⟩
      refine iteT ?_
      refine ⟨_, rfl, _, rfl, u, w2, rfl, ha5.p.get g1, ha5.p.get g2, ha5.on _ (List.mem_of_getElem? g1), ha5.on _ (List.mem_of_getElem? g2), hne i u w2 g1 g2, fun g xs6 hg6 he6 => ?_⟩
      have s6 := same_new (o := HO.tup xs6) hg6
      have hD6 := s6.get (s5.get hD4)
      have hz : (refs zs).length = zs.length := List.length_map _
      refine ⟨_, hD6, by rw [List.length_map]; exact line_of (by omega), gs ++ [g], (s45.trans s6).put hD, by rw [upd_same, List.map_append]; rfl, by rw [List.length_append, hl]; rfl, fun j g' u' w' h1 h2 h3 => ?_⟩
      have put := fun {z : Addr} {a b : Zp} (h : EdgeAt K (upd (upd H4 T1 (.tup [V.ref u.1, V.ref w2.1])) g (.tup xs6)) z a b) => h.put (o := HO.lst (gs.map V.ref ++ [V.ref g])) ⟨_, hD6⟩
      by_cases e : j < gs.length
      · rw [List.getElem?_append_left e] at h1
        exact put (((hg j g' u' w' h1 h2 h3).same s5).same s6)
      · rw [List.getElem?_append_right (by omega)] at h1
        have e2 : j = gs.length := by
          have := (List.getElem?_eq_some_iff.mp h1).1
          simp at this
          omega
        subst e2
        rw [Nat.sub_self] at h1
        cases h1
        rw [hl, g1] at h2
        rw [hl, g2] at h3
        cases h2
        cases h3
        exact put he6
    · rintro H4 ⟨gs, s4, hD4, hl, hg⟩
      exact k D gs H4 (s2.trans s4) (SqL.of hD4) (by rw [hl, List.length_drop, List.length_map]; omega) hg
theorem ok_turn_of (T : Txt K mg) (TB : TxtB T base w) : FnOk P w K mg base CX0 1 T.a_turn_of T.d_turn_of ["a", "b", "c"] (fun vs H Q _ => ∃ (a b c : Addr) (ax ay bx dy cx cy : Int), vs = [.ref a, .ref b, .ref c] ∧ SqT K H a [.int ax, .int ay] ∧ SqT K H b [.int bx, .int dy] ∧ SqT K H c [.int cx, .int cy] ∧ (Sm ax ∧ Sm bx ∧ Sm ay ∧ Sm dy) ∧ Q (.int (turnI ax ay bx dy cx cy)) H) := by
  refine T.F_turn_of.ok sc_turn_of (fun vs H Q E h => ?_) (fun cdv A outer s H vs Q E hr h => ?_)
  · obtain ⟨a, b, c, ax, ay, bx, dy, cx, cy, rfl, ha, hb, hc, ⟨s1, s2, s3, s4⟩, k⟩ := h
    rfl
  · obtain ⟨a, b, c, ax, ay, bx, dy, cx, cy, rfl, ha, hb, hc, ⟨s1, s2, s3, s4⟩, k⟩ := h
    refine ⟨_, (pss_one (ps_ret (pe_op op_sub (pe_op op_mul (pe_op op_sub (pe_ix (r := rIxT K) ix_tup (pv 1) pe_int (fun _ _ => rfl)) (pe_ix (r := rIxT K) ix_tup (pv 0) pe_int (fun _ _ => rfl))) (pe_op op_sub (pe_ix (r := rIxT K) ix_tup (pv 2) pe_int (fun _ _ => rfl)) (pe_ix (r := rIxT K) ix_tup (pv 0) pe_int (fun _ _ => rfl)))) (pe_op op_mul (pe_op op_sub (pe_ix (r := rIxT K) ix_tup (pv 1) pe_int (fun _ _ => rfl)) (pe_ix (r := rIxT K) ix_tup (pv 0) pe_int (fun _ _ => rfl))) (pe_op op_sub (pe_ix (r := rIxT K) ix_tup (pv 2) pe_int (fun _ _ => rfl)) (pe_ix (r := rIxT K) ix_tup (pv 0) pe_int (fun _ _ => rfl))))))), ?_⟩
    unfold Sm at s1 s2 s3 s4
    refine ⟨_, rfl, _, _, _, _, rfl, rfl, hb, at0, _, rfl, _, _, _, _, rfl, rfl, ha, at0, _, _, rfl, rfl, _, rfl, _, _, _, _, rfl, rfl, hc, at1, _, rfl, _, _, _, _, rfl, rfl, ha, at1, _, _, rfl, rfl, _, _, rfl, rfl, .inl ⟨by omega, by omega⟩, ?_⟩
    exact ⟨_, rfl, _, _, _, _, rfl, rfl, hb, at1, _, rfl, _, _, _, _, rfl, rfl, ha, at1, _, _, rfl, rfl, _, rfl, _, _, _, _, rfl, rfl, hc, at0, _, rfl, _, _, _, _, rfl, rfl, ha, at0, _, _, rfl, rfl, _, _, rfl, rfl, .inl ⟨by omega, by omega⟩, _, _, rfl, rfl, k⟩
theorem ok_is_on (T : Txt K mg) (TB : TxtB T base w) : FnOk P w K mg base CX0 2 T.a_is_on T.d_is_on ["p", "segment"] (fun vs H Q _ => ∃ (p g a c : Addr) (px py ax ay bx dy : Int), vs = [.ref p, .ref g] ∧ SqT K H p [.int px, .int py] ∧ SegAt K H g a c ax ay bx dy ∧ On px py ∧ Q (.bl (onI ax ay bx dy px py)) H) := by
  refine T.F_is_on.ok sc_is_on (fun vs H Q E h => ?_) (fun cdv A outer s H vs Q E hr h => ?_)
  · obtain ⟨p, g, a, c, px, py, ax, ay, bx, dy, rfl, hp, hg, op, k⟩ := h
    rfl
  · obtain ⟨p, g, a, c, px, py, ax, ay, bx, dy, rfl, hp, hg, op, k⟩ := h
    refine ⟨_, (pss_cons (ps_asg (pv 1) (pg_tup (by rfl) (pgs_cons (pg_name (i := 2) sc_is_on.nd rfl (Or.inl rfl)) (pgs_cons (pg_name (i := 3) sc_is_on.nd rfl (Or.inl rfl)) pgs_nil))))
      (pss_one (ps_ret (pe_and (pe_cmpR op_eq (pe_call (ok_turn_of T TB) (hr.mono (by omega)) rfl T.m_turn_of T.F_turn_of.kp T.b_turn_of .nil pass0 (pa_cons (pv 2) (pa_cons (pv 3) (pa_cons (pv 0) pa_nil)))) pe_int (nomark _)) (pe_one (pe_chain (op_leP hr.units0) (op_leP hr.units0) (pv 2) (pv 0) (pv 3))))))), ?_⟩
    refine ⟨_, rfl, _, _, rfl, hg.g, rfl, _, _, rfl, _, _, rfl, rfl, ?_⟩
    
    refine ⟨_, rfl, _, rfl, _, rfl, _, _, _, _, _, _, _, _, _, rfl, hg.a, hg.c, hp, ⟨hg.oa.sx, hg.oc.sx, hg.oa.sy, hg.oc.sy⟩, rfl, _, rfl, ifD (fun e => ?_) (fun e => ?_)⟩
    · have e : turnI ax ay bx dy px py = 0 := by injection e
      unfold onI at k
      rw [decide_eq_true e, Bool.true_and] at k
      refine ⟨_, rfl, _, rfl, _, _, _, _, _, _, rfl, rfl, hg.a, hp, _, rfl, ifB (fun q => ?_) (fun q => ?_)⟩
      · refine ⟨_, rfl, _, _, _, _, _, _, rfl, rfl, hp, hg.c, ?_⟩
        rw [q, Bool.true_and] at k
        exact k
      · rw [q, Bool.false_and] at k
        exact k
    · have e : turnI ax ay bx dy px py ≠ 0 := fun z => e (by rw [z])
      unfold onI at k
      rw [decide_eq_false e, Bool.false_and] at k
      exact k
theorem ok_crosses_east (T : Txt K mg) (TB : TxtB T base w) : FnOk P w K mg base CX0 2 T.a_crosses_east T.d_crosses_east ["p", "a", "b"] (fun vs H Q _ => ∃ (p a c : Addr) (P A B : Pt), vs = [.ref p, .ref a, .ref c] ∧ SqT K H p [.int P.1, .int P.2] ∧ SqT K H a [.int A.1, .int A.2] ∧ SqT K H c [.int B.1, .int B.2] ∧ (On A.1 A.2 ∧ On B.1 B.2) ∧ ∀ H', Same H H' → Q (.bl (eastB P A B)) H') := by
  refine T.F_crosses_east.ok sc_crosses_east (fun vs H Q E h => ?_) (fun cdv A outer s H vs Q E hr h => ?_)
  · obtain ⟨p, a, c, P, A, B, rfl, hp, ha, hc, ⟨oa, oc⟩, k⟩ := h
    rfl
  · obtain ⟨p, a, c, P, A, B, rfl, hp, ha, hc, ⟨oa, oc⟩, k⟩ := h
    refine ⟨_, (pss_cons (ps_asg (pe_ifExp (pt_cmpR op_lt (pe_ix (r := rIxT K) ix_tup (pv 1) pe_int (fun _ _ => rfl)) (pe_ix (r := rIxT K) ix_tup (pv 2) pe_int (fun _ _ => rfl)) (nomark _)) (pe_tup (pa_cons (pv 1) (pa_cons (pv 2) pa_nil))) (pe_tup (pa_cons (pv 2) (pa_cons (pv 1) pa_nil)))) (pg_tup (by rfl) (pgs_cons (pg_name (i := 3) sc_crosses_east.nd rfl (Or.inl rfl)) (pgs_cons (pg_name (i := 4) sc_crosses_east.nd rfl (Or.inl rfl)) pgs_nil))))
      (pss_one (ps_ret (pe_and (pe_chain op_le op_lt (pe_ix (r := rIxT K) ix_tup (pv 3) pe_int (fun _ _ => rfl)) (pe_ix (r := rIxT K) ix_tup (pv 0) pe_int (fun _ _ => rfl)) (pe_ix (r := rIxT K) ix_tup (pv 4) pe_int (fun _ _ => rfl))) (pe_one (pe_cmpR op_gt (pe_call (ok_turn_of T TB) (hr.mono (by omega)) rfl T.m_turn_of T.F_turn_of.kp T.b_turn_of .nil pass0 (pa_cons (pv 3) (pa_cons (pv 4) (pa_cons (pv 0) pa_nil)))) pe_int (nomark _))))))), ?_⟩
    refine ⟨_, rfl, _, _, _, _, rfl, rfl, ha, at1, _, rfl, _, _, _, _, rfl, rfl, hc, at1, _, _, rfl, rfl, _, rfl, ifD (fun e => ?_) (fun e => ?_)⟩
    · refine ⟨_, rfl, _, rfl, small rfl, fun q hq => ?_⟩
      have s1 := same_new (o := HO.tup [.ref a, .ref c]) hq
      have k := k _ s1
      have hp := tSame s1 hp
      have hl := tSame s1 ha
      have hh := tSame s1 hc
      have E : eastB P A B = (decide (A.2 ≤ P.2) && decide (P.2 < B.2) && decide (0 < tn A B P)) := if_pos e
      rw [E] at k
      refine ⟨_, _, rfl, tHere, rfl, _, _, rfl, _, _, rfl, rfl, ?_⟩
      refine ⟨_, rfl, _, _, _, _, rfl, rfl, hl, at1, _, rfl, _, _, _, _, rfl, rfl, hp, at1, _, _, rfl, rfl, _, rfl, ifB (fun q1 => ?_) (fun q1 => ?_)⟩
      · rw [q1, Bool.true_and] at k
        refine ⟨_, rfl, _, _, _, _, rfl, rfl, hh, at1, _, _, rfl, rfl, _, rfl, ifB (fun q2 => ?_) (fun q2 => ?_)⟩
        · rw [q2, Bool.true_and] at k
          exact ⟨_, rfl, _, rfl, _, rfl, _, _, _, _, _, _, _, _, _, rfl, hl, hh, hp, ⟨oa.sx, oc.sx, oa.sy, oc.sy⟩, _, _, rfl, rfl, k⟩
        · rw [q2, Bool.false_and] at k
          exact k
      · rw [q1, Bool.false_and, Bool.false_and] at k
        exact ⟨_, rfl, iteF k⟩
    · refine ⟨_, rfl, _, rfl, small rfl, fun q hq => ?_⟩
      have s1 := same_new (o := HO.tup [.ref c, .ref a]) hq
      have k := k _ s1
      have hp := tSame s1 hp
      have hl := tSame s1 hc
      have hh := tSame s1 ha
      have E : eastB P A B = (decide (B.2 ≤ P.2) && decide (P.2 < A.2) && decide (0 < tn B A P)) := if_neg e
      rw [E] at k
      refine ⟨_, _, rfl, tHere, rfl, _, _, rfl, _, _, rfl, rfl, ?_⟩
      refine ⟨_, rfl, _, _, _, _, rfl, rfl, hl, at1, _, rfl, _, _, _, _, rfl, rfl, hp, at1, _, _, rfl, rfl, _, rfl, ifB (fun q1 => ?_) (fun q1 => ?_)⟩
      · rw [q1, Bool.true_and] at k
        refine ⟨_, rfl, _, _, _, _, rfl, rfl, hh, at1, _, _, rfl, rfl, _, rfl, ifB (fun q2 => ?_) (fun q2 => ?_)⟩
        · rw [q2, Bool.true_and] at k
          exact ⟨_, rfl, _, rfl, _, rfl, _, _, _, _, _, _, _, _, _, rfl, hl, hh, hp, ⟨oc.sx, oa.sx, oc.sy, oa.sy⟩, _, _, rfl, rfl, k⟩
        · rw [q2, Bool.false_and] at k
          exact k
      · rw [q1, Bool.false_and, Bool.false_and] at k
        exact ⟨_, rfl, iteF k⟩
theorem ok_are_apart (T : Txt K mg) (TB : TxtB T base w) : FnOk P w K mg base CX0 1 T.a_are_apart T.d_are_apart ["first", "second"] (fun vs H Q _ => ∃ (g a c h e f : Addr) (ax ay bx dy ex ey fx fy : Int), vs = [.ref g, .ref h] ∧ SegAt K H g a c ax ay bx dy ∧ SegAt K H h e f ex ey fx fy ∧ ∀ H', Same H H' → Q (.bl (apartB (ax, ay) (bx, dy) (ex, ey) (fx, fy))) H') := by
  refine T.F_are_apart.ok sc_are_apart (fun vs H Q E h => ?_) (fun cdv A outer s H vs Q E hr h => ?_)
  · obtain ⟨g, a, c, h, e, f, ax, ay, bx, dy, ex, ey, fx, fy, rfl, hg, hh, k⟩ := h
    rfl
  · obtain ⟨g, a, c, h, e, f, ax, ay, bx, dy, ex, ey, fx, fy, rfl, hg, hh, k⟩ := h
    refine ⟨_, (pss_cons (ps_asg (pe_tup (pa_cons (pv 0) (pa_cons (pv 1) pa_nil))) (pg_tup (by rfl) (pgs_cons (pg_tup (by rfl) (pgs_cons (pg_name (i := 2) sc_are_apart.nd rfl (Or.inl rfl)) (pgs_cons (pg_name (i := 3) sc_are_apart.nd rfl (Or.inl rfl)) pgs_nil))) (pgs_cons (pg_tup (by rfl) (pgs_cons (pg_name (i := 4) sc_are_apart.nd rfl (Or.inl rfl)) (pgs_cons (pg_name (i := 5) sc_are_apart.nd rfl (Or.inl rfl)) pgs_nil))) pgs_nil))))
      (pss_cons (ps_if (PW.pt (pw_or (pt_cmpR op_lt (pe_ix (r := rIxT K) ix_tup (pv 3) pe_int (fun _ _ => rfl)) (pe_ix (r := rIxT K) ix_tup (pv 4) pe_int (fun _ _ => rfl)) (nomark _)) (pw_or1 (pt_cmpR op_lt (pe_ix (r := rIxT K) ix_tup (pv 5) pe_int (fun _ _ => rfl)) (pe_ix (r := rIxT K) ix_tup (pv 2) pe_int (fun _ _ => rfl)) (nomark _)))))
        (pss_one (ps_ret pe_bl))
        pss_nil)
      (pss_one (ps_ret (pe_or (pe_cmpR op_lt (pe_callB (call_max2 rfl) (by rfl) T.n_max (by decide +kernel) (pa_cons (pe_ix (r := rIxT K) ix_tup (pv 2) pe_int (fun _ _ => rfl)) (pa_cons (pe_ix (r := rIxT K) ix_tup (pv 3) pe_int (fun _ _ => rfl)) pa_nil))) (pe_callB (call_min2 rfl) (by rfl) T.n_min (by decide +kernel) (pa_cons (pe_ix (r := rIxT K) ix_tup (pv 4) pe_int (fun _ _ => rfl)) (pa_cons (pe_ix (r := rIxT K) ix_tup (pv 5) pe_int (fun _ _ => rfl)) pa_nil))) (nomark _)) (pe_one (pe_cmpR op_lt (pe_callB (call_max2 rfl) (by rfl) T.n_max (by decide +kernel) (pa_cons (pe_ix (r := rIxT K) ix_tup (pv 4) pe_int (fun _ _ => rfl)) (pa_cons (pe_ix (r := rIxT K) ix_tup (pv 5) pe_int (fun _ _ => rfl)) pa_nil))) (pe_callB (call_min2 rfl) (by rfl) T.n_min (by decide +kernel) (pa_cons (pe_ix (r := rIxT K) ix_tup (pv 2) pe_int (fun _ _ => rfl)) (pa_cons (pe_ix (r := rIxT K) ix_tup (pv 3) pe_int (fun _ _ => rfl)) pa_nil))) (nomark _)))))))), ?_⟩
    refine ⟨_, rfl, _, rfl, small rfl, fun p hp => ?_⟩
    refine ⟨_, _, rfl, tHere, rfl, _, _, rfl, _, _, rfl, tOver hp hg.g, rfl, _, _, rfl, _, _, rfl, rfl, _, _, rfl, _, _, rfl, tOver hp hh.g, rfl, _, _, rfl, _, _, rfl, rfl, rfl, ?_⟩
    
    have hg1 := hg.same (same_new (o := HO.tup [.ref g, .ref h]) hp)
    have hh1 := hh.same (same_new (o := HO.tup [.ref g, .ref h]) hp)
    have k := k _ (same_new (o := HO.tup [.ref g, .ref h]) hp)
    unfold apartB mx mn at k
    dsimp only at k
    refine ⟨_, rfl, _, _, _, _, rfl, rfl, hg1.c, at0, _, rfl, _, _, _, _, rfl, rfl, hh1.a, at0, _, _, rfl, rfl, _, rfl, ifD (fun q => ?_) (fun q => ?_)⟩
    · rw [decide_eq_true q, Bool.true_or, Bool.true_or] at k
      exact k
    rw [decide_eq_false q, Bool.false_or] at k
    refine ⟨_, rfl, _, _, _, _, rfl, rfl, hh1.c, at0, _, rfl, _, _, _, _, rfl, rfl, hg1.a, at0, _, _, rfl, rfl, _, rfl, ifD (fun q => ?_) (fun q => ?_)⟩
    · rw [decide_eq_true q, Bool.true_or] at k
      exact k
    rw [decide_eq_false q, Bool.false_or] at k
    refine ⟨_, rfl, _, _, _, _, rfl, rfl, hg1.a, at1, _, rfl, _, _, _, _, rfl, rfl, hg1.c, at1, _, _, rfl, _, rfl, _, _, _, _, rfl, rfl, hh1.a, at1, _, rfl, _, _, _, _, rfl, rfl, hh1.c, at1, _, _, rfl, _, _, rfl, rfl, ?_⟩
    refine ⟨_, rfl, ifB (fun q => ?_) (fun q => ?_)⟩
    · have q : decide ((if dy > ay then dy else ay) < (if fy < ey then fy else ey)) = true := q
      rw [q, Bool.true_or] at k
      exact k
    have q : decide ((if dy > ay then dy else ay) < (if fy < ey then fy else ey)) = false := q
    rw [q, Bool.false_or] at k
    exact ⟨_, rfl, _, _, _, _, rfl, rfl, hh1.a, at1, _, rfl, _, _, _, _, rfl, rfl, hh1.c, at1, _, _, rfl, _, rfl, _, _, _, _, rfl, rfl, hg1.a, at1, _, rfl, _, _, _, _, rfl, rfl, hg1.c, at1, _, _, rfl, _, _, rfl, rfl, k⟩
theorem ok_meeting_on_line (T : Txt K mg) (TB : TxtB T base w) : FnOk P w K mg base CX0 1 T.a_meeting_on_line T.d_meeting_on_line ["first", "second"] (fun vs H Q _ => ∃ (g a c h e f : Addr) (ax ay bx dy ex ey fx fy : Int), vs = [.ref g, .ref h] ∧ SegAt K H g a c ax ay bx dy ∧ SegAt K H h e f ex ey fx fy ∧ ∀ v H', Same H H' → MtAt K H' v (lineM (ax, ay) (bx, dy) (ex, ey) (fx, fy)) → Q v H') := by
  refine T.F_meeting_on_line.ok sc_meeting_on_line (fun vs H Q E h => ?_) (fun cdv A outer s H vs Q E hr h => ?_)
  · obtain ⟨g, a, c, h, e, f, ax, ay, bx, dy, ex, ey, fx, fy, rfl, hg, hh, k⟩ := h
    rfl
  · obtain ⟨g, a, c, h, e, f, ax, ay, bx, dy, ex, ey, fx, fy, rfl, hg, hh, k⟩ := h
    refine ⟨_, (pss_cons (ps_set (i := 2) sc_meeting_on_line.nd rfl (Or.inl rfl) (pe_callB (call_maxP rfl hr.units) (by rfl) T.n_max (by decide +kernel) (pa_cons (pe_ix (r := rIxT K) ix_tup (pv 0) pe_int (fun _ _ => rfl)) (pa_cons (pe_ix (r := rIxT K) ix_tup (pv 1) pe_int (fun _ _ => rfl)) pa_nil))))
      (pss_cons (ps_set (i := 3) sc_meeting_on_line.nd rfl (Or.inl rfl) (pe_callB (call_minP rfl hr.units) (by rfl) T.n_min (by decide +kernel) (pa_cons (pe_ix (r := rIxT K) ix_tup (pv 0) pe_int (fun _ _ => rfl)) (pa_cons (pe_ix (r := rIxT K) ix_tup (pv 1) pe_int (fun _ _ => rfl)) pa_nil))))
      (pss_cons (ps_if (pt_cmpR (op_gtP hr.units) (pv 2) (pv 3) (nomark _))
        (pss_one (ps_ret (pe_tup (pa_cons pe_str pa_nil))))
        pss_nil)
      (pss_cons (ps_if (pt_cmpR (op_eqP hr.units) (pv 2) (pv 3) (nomark _))
        (pss_one (ps_ret (pe_tup (pa_cons pe_str (pa_cons (pv 2) pa_nil)))))
        pss_nil)
      (pss_one (ps_ret (pe_tup (pa_cons pe_str (pa_cons (pv 2) (pa_cons (pv 3) pa_nil)))))))))), ?_⟩
    refine ⟨_, rfl, _, _, _, _, rfl, rfl, hg.g, at0, _, rfl, _, _, _, _, rfl, rfl, hh.g, at0, _, _, _, _, _, _, rfl, hg.a, hh.a, ?_⟩
    refine ⟨_, rfl, _, _, _, _, rfl, rfl, hg.g, at1, _, rfl, _, _, _, _, rfl, rfl, hh.g, at1, _, _, _, _, _, _, rfl, hg.c, hh.c, ?_⟩
    dsimp only
    have h1 : SqT K H (if ltP ax ay ex ey = true then e else a) [.int (low (ax, ay) (ex, ey)).1, .int (low (ax, ay) (ex, ey)).2] := by
      by_cases l : ltP ax ay ex ey = true
      · have e1 : low (ax, ay) (ex, ey) = (ex, ey) := if_pos l
        rw [if_pos l, e1]; exact hh.a
      · have e1 : low (ax, ay) (ex, ey) = (ax, ay) := if_neg l
        rw [if_neg l, e1]; exact hg.a
    have h2 : SqT K H (if ltP fx fy bx dy = true then f else c) [.int (high (bx, dy) (fx, fy)).1, .int (high (bx, dy) (fx, fy)).2] := by
      by_cases l : ltP fx fy bx dy = true
      · have e1 : high (bx, dy) (fx, fy) = (fx, fy) := if_pos l
        rw [if_pos l, e1]; exact hh.c
      · have e1 : high (bx, dy) (fx, fy) = (bx, dy) := if_neg l
        rw [if_neg l, e1]; exact hg.c
    unfold lineM at k
    generalize (if ltP ax ay ex ey = true then e else a) = lo at h1 ⊢
    generalize (if ltP fx fy bx dy = true then f else c) = hi at h2 ⊢
    generalize low (ax, ay) (ex, ey) = L at h1 k
    generalize high (bx, dy) (fx, fy) = R at h2 k
    refine ⟨_, rfl, _, rfl, _, _, _, _, _, _, rfl, rfl, h1, h2, _, rfl, ifB (fun q => ?_) (fun q => ?_)⟩
    · have q : lt R L = true := q
      rw [if_pos q] at k
      exact ⟨small rfl, fun p hp => k _ _ (same_new hp) ⟨p, rfl, tHere⟩⟩
    have q : ¬ lt R L = true := fun z => by
      have z : ltP R.1 R.2 L.1 L.2 = true := z
      rw [q] at z; cases z
    rw [if_neg q] at k
    refine ⟨_, rfl, _, rfl, _, _, _, _, _, _, rfl, rfl, h1, h2, _, rfl, ifD (fun z => ?_) (fun z => ?_)⟩
    · rw [if_pos (pt_eq z.1 z.2)] at k
      exact ⟨_, rfl, small rfl, fun p hp => k _ _ (same_new hp) ⟨p, _, rfl, tHere, tOver hp h1⟩⟩
    · rw [if_neg (fun w => z (by rw [w]; exact ⟨rfl, rfl⟩))] at k
      exact ⟨_, rfl, _, rfl, small rfl, fun p hp => k _ _ (same_new hp) ⟨p, _, _, rfl, tHere, tOver hp h1, tOver hp h2⟩⟩
theorem ok_common_end (T : Txt K mg) (TB : TxtB T base w) : FnOk P w K mg base CX0 3 T.a_common_end T.d_common_end ["first", "second"] (fun vs H Q _ => ∃ (g a c h e f : Addr) (ax ay bx dy ex ey fx fy : Int), vs = [.ref g, .ref h] ∧ SegAt K H g a c ax ay bx dy ∧ SegAt K H h e f ex ey fx fy ∧ ∀ v, CeAt K H v (endM (ax, ay) (bx, dy) (ex, ey) (fx, fy)) → Q v H) := by
  refine T.F_common_end.ok sc_common_end (fun vs H Q E h => ?_) (fun cdv A outer s H vs Q E hr h => ?_)
  · obtain ⟨g, a, c, h, e, f, ax, ay, bx, dy, ex, ey, fx, fy, rfl, hg, hh, k⟩ := h
    rfl
  · obtain ⟨g, a, c, h, e, f, ax, ay, bx, dy, ex, ey, fx, fy, rfl, hg, hh, k⟩ := h
    refine ⟨_, (pss_cons (ps_for PassesOwn.never rfl (pi_tup (pv 0)) (pg_name (i := 2) sc_common_end.nd rfl (Or.inl rfl))
        (pss_one (ps_if (pt_val (pe_call (ok_is_on T TB) (hr.mono (by omega)) rfl T.m_is_on T.F_is_on.kp T.b_is_on .nil pass0 (pa_cons (pv 2) (pa_cons (pv 1) pa_nil))))
          (pss_one (ps_ret (pv 2)))
          pss_nil)))
      (pss_cons (ps_for PassesOwn.never rfl (pi_tup (pv 1)) (pg_name (i := 2) sc_common_end.nd rfl (Or.inl rfl))
        (pss_one (ps_if (pt_val (pe_call (ok_is_on T TB) (hr.mono (by omega)) rfl T.m_is_on T.F_is_on.kp T.b_is_on .nil pass0 (pa_cons (pv 2) (pa_cons (pv 0) pa_nil))))
          (pss_one (ps_ret (pv 2)))
          pss_nil)))
      (pss_one (ps_ret pe_non)))), ?_⟩
    refine ⟨_, rfl, _, rfl, ⟨_, hg.g⟩, for_tup (K := K) (a := g) (xs := [.ref a, .ref c]) (fun i σ' H' => H' = H ∧ ∃ v, σ' = [some (.ref g), some (.ref h), v] ∧ (1 ≤ i → on (ax, ay) (ex, ey) (fx, fy) = false) ∧ (2 ≤ i → on (bx, dy) (ex, ey) (fx, fy) = false))
      ⟨rfl, none, rfl, fun z => absurd z (by decide), fun z => absurd z (by decide)⟩ (fun i σ' H' _ z => by rw [z.1]; exact hg.g) ?_ ?_⟩
    · rintro i x σ' H' hx ⟨rfl, v, rfl, n1, n2⟩
      have hi : i < 2 := (List.getElem?_eq_some_iff.mp hx).1
      rcases (show i = 0 ∨ i = 1 by omega) with rfl | rfl <;> cases hx
      · refine ⟨_, rfl, _, rfl, _, _, _, _, _, _, _, _, _, _, rfl, hg.a, hh, hg.oa, _, rfl, ifB (fun q => ?_) (fun q => ?_)⟩
        · have z : endM (ax, ay) (bx, dy) (ex, ey) (fx, fy) = some (ax, ay) := if_pos q
          rw [z] at k
          exact ⟨_, rfl, k _ ⟨_, rfl, hg.a⟩⟩
        · exact ⟨rfl, _, rfl, fun _ => q, fun z => absurd z (by decide)⟩
      · have n1 := n1 (by decide)
        refine ⟨_, rfl, _, rfl, _, _, _, _, _, _, _, _, _, _, rfl, hg.c, hh, hg.oc, _, rfl, ifB (fun q => ?_) (fun q => ?_)⟩
        · have z : endM (ax, ay) (bx, dy) (ex, ey) (fx, fy) = some (bx, dy) := by
            have q : on (bx, dy) (ex, ey) (fx, fy) = true := q
            unfold endM
            rw [n1, q]; rfl
          rw [z] at k
          exact ⟨_, rfl, k _ ⟨_, rfl, hg.c⟩⟩
        · exact ⟨rfl, _, rfl, fun _ => n1, fun _ => q⟩
    rintro σ' H' ⟨rfl, v, rfl, n1, n2⟩
    have n1 := n1 (Nat.le_of_ble_eq_true rfl)
    have n2 := n2 (Nat.le_of_ble_eq_true rfl)
    refine ⟨_, rfl, _, rfl, ⟨_, hh.g⟩, for_tup (K := K) (a := h) (xs := [.ref e, .ref f]) (fun i σ' H'' => H'' = H' ∧ ∃ v, σ' = [some (.ref g), some (.ref h), v] ∧ (1 ≤ i → on (ex, ey) (ax, ay) (bx, dy) = false) ∧ (2 ≤ i → on (fx, fy) (ax, ay) (bx, dy) = false))
      ⟨rfl, _, rfl, fun z => absurd z (by decide), fun z => absurd z (by decide)⟩ (fun i σ' H' _ z => by rw [z.1]; exact hh.g) ?_ ?_⟩
    · rintro i x σ' H' hx ⟨rfl, v, rfl, n3, n4⟩
      have hi : i < 2 := (List.getElem?_eq_some_iff.mp hx).1
      rcases (show i = 0 ∨ i = 1 by omega) with rfl | rfl <;> cases hx
      · refine ⟨_, rfl, _, rfl, _, _, _, _, _, _, _, _, _, _, rfl, hh.a, hg, hh.oa, _, rfl, ifB (fun q => ?_) (fun q => ?_)⟩
        · have z : endM (ax, ay) (bx, dy) (ex, ey) (fx, fy) = some (ex, ey) := by
            have q : on (ex, ey) (ax, ay) (bx, dy) = true := q
            unfold endM
            rw [n1, n2, q]; rfl
          rw [z] at k
          exact ⟨_, rfl, k _ ⟨_, rfl, hh.a⟩⟩
        · exact ⟨rfl, _, rfl, fun _ => q, fun z => absurd z (by decide)⟩
      · have n3 := n3 (by decide)
        refine ⟨_, rfl, _, rfl, _, _, _, _, _, _, _, _, _, _, rfl, hh.c, hg, hh.oc, _, rfl, ifB (fun q => ?_) (fun q => ?_)⟩
        · have z : endM (ax, ay) (bx, dy) (ex, ey) (fx, fy) = some (fx, fy) := by
            have q : on (fx, fy) (ax, ay) (bx, dy) = true := q
            unfold endM
            rw [n1, n2, n3, q]; rfl
          rw [z] at k
          exact ⟨_, rfl, k _ ⟨_, rfl, hh.c⟩⟩
        · exact ⟨rfl, _, rfl, fun _ => n3, fun _ => q⟩
    rintro σ' H' ⟨rfl, v, rfl, n3, n4⟩
    have z : endM (ax, ay) (bx, dy) (ex, ey) (fx, fy) = none := by
      unfold endM
      rw [n1, n2, n3 (Nat.le_of_ble_eq_true rfl), n4 (Nat.le_of_ble_eq_true rfl)]; rfl
    rw [z] at k
    exact k _ rfl
theorem ok_cut_point (T : Txt K mg) (TB : TxtB T base w) : FnOk P w K mg base CX0 2 T.a_cut_point T.d_cut_point ["first", "before", "after"] (fun vs H Q _ => ∃ (g a c : Addr) (ax ay bx dy be af : Int), vs = [.ref g, .int be, .int af] ∧ SegAt K H g a c ax ay bx dy ∧ be - af ≠ 0 ∧ be.natAbs ≤ 2 ^ 23 ∧ af.natAbs ≤ 2 ^ 23 ∧ ∀ (p q r : Addr) H', Same H H' → SqT K H' p [.ref q, .ref r] → SqT K H' q [.int (lowN (cutN ax bx be af) (be - af)), .int (lowD (cutN ax bx be af) (be - af))] → SqT K H' r [.int (lowN (cutN ay dy be af) (be - af)), .int (lowD (cutN ay dy be af) (be - af))] → Q (.ref p) H') := by
  refine T.F_cut_point.ok sc_cut_point (fun vs H Q E h => ?_) (fun cdv A outer s H vs Q E hr h => ?_)
  · obtain ⟨g, a, c, ax, ay, bx, dy, be, af, rfl, hg, hw, b1, b2, k⟩ := h
    rfl
  · obtain ⟨g, a, c, ax, ay, bx, dy, be, af, rfl, hg, hw, b1, b2, k⟩ := h
    refine ⟨_, (pss_cons (ps_asg (pv 0) (pg_tup (by rfl) (pgs_cons (pg_name (i := 3) sc_cut_point.nd rfl (Or.inl rfl)) (pgs_cons (pg_name (i := 4) sc_cut_point.nd rfl (Or.inl rfl)) pgs_nil))))
      (pss_cons (ps_set (i := 5) sc_cut_point.nd rfl (Or.inl rfl) (pe_op op_sub (pv 1) (pv 2)))
      (pss_one (ps_ret (pe_tup (pa_cons (pe_call (ok_lowest T TB) (hr.mono (by omega)) rfl T.m_lowest T.F_lowest.kp T.b_lowest .nil pass0 (pa_cons (pe_op op_add (pe_op op_mul (pe_ix (r := rIxT K) ix_tup (pv 3) pe_int (fun _ _ => rfl)) (pv 5)) (pe_op op_mul (pv 1) (pe_op op_sub (pe_ix (r := rIxT K) ix_tup (pv 4) pe_int (fun _ _ => rfl)) (pe_ix (r := rIxT K) ix_tup (pv 3) pe_int (fun _ _ => rfl))))) (pa_cons (pv 5) pa_nil))) (pa_cons (pe_call (ok_lowest T TB) (hr.mono (by omega)) rfl T.m_lowest T.F_lowest.kp T.b_lowest .nil pass0 (pa_cons (pe_op op_add (pe_op op_mul (pe_ix (r := rIxT K) ix_tup (pv 3) pe_int (fun _ _ => rfl)) (pv 5)) (pe_op op_mul (pv 1) (pe_op op_sub (pe_ix (r := rIxT K) ix_tup (pv 4) pe_int (fun _ _ => rfl)) (pe_ix (r := rIxT K) ix_tup (pv 3) pe_int (fun _ _ => rfl))))) (pa_cons (pv 5) pa_nil))) pa_nil))))))), ?_⟩
    refine ⟨_, rfl, _, _, rfl, hg.g, rfl, _, _, rfl, _, _, rfl, rfl, ?_⟩
    refine ⟨_, rfl, _, rfl, _, _, rfl, rfl, ?_⟩
    have oa0 : ax.natAbs ≤ 2 ^ 11 := by have z := hg.oa; unfold On at z; omega
    have oa1 : ay.natAbs ≤ 2 ^ 11 := by have z := hg.oa; unfold On at z; omega
    have bw : (be - af).natAbs ≤ 2 ^ 24 := sub_le b1 b2
    have v := hg.oc.d hg.oa
    have c0 : (cutN ax bx be af).natAbs ≤ 2 ^ 36 := add_le (x := 35) (mul_le (x := 11) (y := 24) oa0 bw) (pow_up (mul_le (x := 23) (y := 11) b1 v.1))
    have c1 : (cutN ay dy be af).natAbs ≤ 2 ^ 36 := add_le (x := 35) (mul_le (x := 11) (y := 24) oa1 bw) (pow_up (mul_le (x := 23) (y := 11) b1 v.2))
    refine ⟨_, rfl, _, _, _, _, rfl, rfl, hg.a, at0, _, rfl, _, _, rfl, rfl, .inl (m64 oa0), _, rfl, _, rfl, _, _, _, _, rfl, rfl, hg.c, at0, _, rfl, _, _, _, _, rfl, rfl, hg.a, at0, _, _, rfl, rfl, _, _, rfl, rfl, .inl (m64 b1), _, _, rfl, rfl, _, rfl, _, _, rfl, hw, pow_up c0, pow_up bw, fun q hq => ?_⟩
    have hg1 := hg.same (same_new (o := HO.tup [.int (lowN (cutN ax bx be af) (be - af)), .int (lowD (cutN ax bx be af) (be - af))]) hq)
    refine ⟨_, rfl, _, _, _, _, rfl, rfl, hg1.a, at1, _, rfl, _, _, rfl, rfl, .inl (m64 oa1), _, rfl, _, rfl, _, _, _, _, rfl, rfl, hg1.c, at1, _, rfl, _, _, _, _, rfl, rfl, hg1.a, at1, _, _, rfl, rfl, _, _, rfl, rfl, .inl (m64 b1), _, _, rfl, rfl, _, rfl, _, _, rfl, hw, pow_up c1, pow_up bw, fun r hr => ?_⟩
    refine ⟨small rfl, fun p hp => k p q r _ (same_then (same_then (same_new hq) hr) hp) tHere (tOver hp (tOver hr tHere)) (tOver hp tHere)⟩
theorem ok_meeting_of (T : Txt K mg) (TB : TxtB T base w) : FnOk P w K mg base CX0 4 T.a_meeting_of T.d_meeting_of ["first", "second"] (fun vs H Q _ => ∃ (g a c h e f : Addr) (ax ay bx dy ex ey fx fy : Int), vs = [.ref g, .ref h] ∧ SegAt K H g a c ax ay bx dy ∧ SegAt K H h e f ex ey fx fy ∧ ∀ v H', Same H H' → MtAt K H' v (meetM (ax, ay) (bx, dy) (ex, ey) (fx, fy)) → Q v H') := by
  refine T.F_meeting_of.ok sc_meeting_of (fun vs H Q E h => ?_) (fun cdv A outer s H vs Q E hr h => ?_)
  · obtain ⟨g, a, c, h, e, f, ax, ay, bx, dy, ex, ey, fx, fy, rfl, hg, hh, k⟩ := h
    rfl
  · obtain ⟨g, a, c, h, e, f, ax, ay, bx, dy, ex, ey, fx, fy, rfl, hg, hh, k⟩ := h
    refine ⟨_, (pss_cons (ps_if (pt_val (pe_call (ok_are_apart T TB) (hr.mono (by omega)) rfl T.m_are_apart T.F_are_apart.kp T.b_are_apart .nil pass0 (pa_cons (pv 0) (pa_cons (pv 1) pa_nil))))
        (pss_one (ps_ret (pe_tup (pa_cons pe_str pa_nil))))
        pss_nil)
      (pss_cons (ps_asg (pe_tup (pa_cons (pv 0) (pa_cons (pv 1) pa_nil))) (pg_tup (by rfl) (pgs_cons (pg_tup (by rfl) (pgs_cons (pg_name (i := 2) sc_meeting_of.nd rfl (Or.inl rfl)) (pgs_cons (pg_name (i := 3) sc_meeting_of.nd rfl (Or.inl rfl)) pgs_nil))) (pgs_cons (pg_tup (by rfl) (pgs_cons (pg_name (i := 4) sc_meeting_of.nd rfl (Or.inl rfl)) (pgs_cons (pg_name (i := 5) sc_meeting_of.nd rfl (Or.inl rfl)) pgs_nil))) pgs_nil))))
      (pss_cons (ps_par (i := 6) (j := 7) (by rfl) sc_meeting_of.nd rfl rfl (by decide) rfl rfl (pa_cons (pe_call (ok_turn_of T TB) (hr.mono (by omega)) rfl T.m_turn_of T.F_turn_of.kp T.b_turn_of .nil pass0 (pa_cons (pv 4) (pa_cons (pv 5) (pa_cons (pv 2) pa_nil)))) (pa_cons (pe_call (ok_turn_of T TB) (hr.mono (by omega)) rfl T.m_turn_of T.F_turn_of.kp T.b_turn_of .nil pass0 (pa_cons (pv 4) (pa_cons (pv 5) (pa_cons (pv 3) pa_nil)))) pa_nil)) (by rfl))
      (pss_cons (ps_if (PW.pt (pw_and (pt_cmpR op_eq (pv 6) pe_int (nomark _)) (pw_and1 (pt_cmpR op_eq (pv 7) pe_int (nomark _)))))
        (pss_one (ps_ret (pe_call (ok_meeting_on_line T TB) (hr.mono (by omega)) rfl T.m_meeting_on_line T.F_meeting_on_line.kp T.b_meeting_on_line .nil pass0 (pa_cons (pv 0) (pa_cons (pv 1) pa_nil)))))
        pss_nil)
      (pss_cons (ps_set (i := 8) sc_meeting_of.nd rfl (Or.inl rfl) (pe_call (ok_common_end T TB) (hr.mono (by omega)) rfl T.m_common_end T.F_common_end.kp T.b_common_end .nil pass0 (pa_cons (pv 0) (pa_cons (pv 1) pa_nil))))
      (pss_cons (ps_if (pt_cmpR op_notN (pv 8) pe_non (nomark _))
        (pss_one (ps_ret (pe_tup (pa_cons pe_str (pa_cons (pv 8) pa_nil)))))
        pss_nil)
      (pss_cons (ps_if (PW.pt (pw_and (pt_cmpR op_lt (pe_op op_mul (pv 6) (pv 7)) pe_int (nomark _)) (pw_and1 (pt_cmpR op_lt (pe_op op_mul (pe_call (ok_turn_of T TB) (hr.mono (by omega)) rfl T.m_turn_of T.F_turn_of.kp T.b_turn_of .nil pass0 (pa_cons (pv 2) (pa_cons (pv 3) (pa_cons (pv 4) pa_nil)))) (pe_call (ok_turn_of T TB) (hr.mono (by omega)) rfl T.m_turn_of T.F_turn_of.kp T.b_turn_of .nil pass0 (pa_cons (pv 2) (pa_cons (pv 3) (pa_cons (pv 5) pa_nil))))) pe_int (nomark _)))))
        (pss_cons (ps_asg (pe_call (ok_cut_point T TB) (hr.mono (by omega)) rfl T.m_cut_point T.F_cut_point.kp T.b_cut_point .nil pass0 (pa_cons (pv 0) (pa_cons (pv 6) (pa_cons (pv 7) pa_nil)))) (pg_tup (by rfl) (pgs_cons (pg_name (i := 9) sc_meeting_of.nd rfl (Or.inl rfl)) (pgs_cons (pg_name (i := 10) sc_meeting_of.nd rfl (Or.inl rfl)) pgs_nil))))
        (pss_one (ps_ret (pe_tup (pa_cons pe_str (pa_cons (pv 9) (pa_cons (pv 10) pa_nil)))))))
        pss_nil)
      (pss_one (ps_ret (pe_tup (pa_cons pe_str pa_nil))))))))))), ?_⟩
    refine ⟨_, rfl, _, rfl, _, _, _, _, _, _, _, _, _, _, _, _, _, _, rfl, hg, hh, fun H1 e1 => ⟨_, rfl, ifB (fun q => ?_) (fun q => ?_)⟩⟩
    · have z : meetM (ax, ay) (bx, dy) (ex, ey) (fx, fy) = .none := if_pos q
      rw [z] at k
      exact ⟨small rfl, fun p hp => k _ _ (same_then e1 hp) ⟨p, rfl, tHere⟩⟩
    have q : ¬ apartB (ax, ay) (bx, dy) (ex, ey) (fx, fy) = true := by rw [q]; exact Bool.false_ne_true
    have hg := hg.same e1
    have hh := hh.same e1
    refine ⟨_, rfl, _, rfl, small rfl, fun p hp => ?_⟩
    refine ⟨_, _, rfl, tHere, rfl, _, _, rfl, _, _, rfl, tOver hp hg.g, rfl, _, _, rfl, _, _, rfl, rfl, _, _, rfl, _, _, rfl, tOver hp hh.g, rfl, _, _, rfl, _, _, rfl, rfl, rfl, ?_⟩
    
    have hg := hg.same (same_new (o := HO.tup [.ref g, .ref h]) hp)
    have hh := hh.same (same_new (o := HO.tup [.ref g, .ref h]) hp)
    have e2 := same_then e1 (o := HO.tup [.ref g, .ref h]) hp
    generalize upd H1 p (HO.tup [.ref g, .ref h]) = H2 at hg hh e2 ⊢
    have t1 := turn_le hh.oa hh.oc hg.oa
    have t2 := turn_le hh.oa hh.oc hg.oc
    have t3 := turn_le hg.oa hg.oc hh.oa
    refine ⟨_, rfl, _, rfl, _, rfl, _, _, _, _, _, _, _, _, _, rfl, hh.a, hh.c, hg.a, ⟨hh.oa.sx, hh.oc.sx, hh.oa.sy, hh.oc.sy⟩, _, rfl, _, rfl, _, rfl, _, _, _, _, _, _, _, _, _, rfl, hh.a, hh.c, hg.c, ⟨hh.oa.sx, hh.oc.sx, hh.oa.sy, hh.oc.sy⟩, _, _, rfl, ?_⟩
    by_cases z : tn (ex, ey) (fx, fy) (ax, ay) = 0 ∧ tn (ex, ey) (fx, fy) (bx, dy) = 0
    · refine ⟨_, rfl, rfl, _, rfl, ifD (fun _ => ⟨_, rfl, rfl, _, rfl, ifD (fun _ => ?_) (fun y => absurd (congrArg V.int z.2) y)⟩) (fun y => absurd (congrArg V.int z.1) y)⟩
      have w : meetM (ax, ay) (bx, dy) (ex, ey) (fx, fy) = lineM (ax, ay) (bx, dy) (ex, ey) (fx, fy) := by unfold meetM; rw [if_neg q, if_pos z]
      rw [w] at k
      exact ⟨_, rfl, _, rfl, _, _, _, _, _, _, _, _, _, _, _, _, _, _, rfl, hg, hh, fun v H' e => k v H' (e2.trans e)⟩
    refine ⟨_, rfl, rfl, _, rfl, ifD (fun y1 => ⟨_, rfl, rfl, _, rfl, ifD (fun y2 => absurd ⟨int0 y1, int0 y2⟩ z) (fun _ => ?_)⟩) (fun _ => ?_)⟩
    all_goals
      refine ⟨_, rfl, _, rfl, _, _, _, _, _, _, _, _, _, _, _, _, _, _, rfl, hg, hh, fun v hv => ?_⟩
      cases em : endM (ax, ay) (bx, dy) (ex, ey) (fx, fy) with
      | some R =>
        rw [em] at hv
        obtain ⟨r, rfl, hr⟩ := hv
        have w : meetM (ax, ay) (bx, dy) (ex, ey) (fx, fy) = .touch R := by unfold meetM; rw [if_neg q, if_neg z, em]
        rw [w] at k
        exact ⟨_, rfl, rfl, _, rfl, ifND (fun _ => ⟨_, rfl, small rfl, fun p hp => k _ _ (same_then e2 hp) ⟨p, r, rfl, tHere, tOver hp hr⟩⟩) (fun y => by cases y)⟩
      | none =>
        rw [em] at hv
        have hv : v = V.non := hv
        subst hv
        refine ⟨_, rfl, rfl, _, rfl, ifND (fun y => absurd rfl y) (fun _ => ?_)⟩
        have w : meetM (ax, ay) (bx, dy) (ex, ey) (fx, fy) = if tn (ex, ey) (fx, fy) (ax, ay) * tn (ex, ey) (fx, fy) (bx, dy) < 0 ∧ tn (ax, ay) (bx, dy) (ex, ey) * tn (ax, ay) (bx, dy) (fx, fy) < 0 then cross (ax, ay) (bx, dy) (tn (ex, ey) (fx, fy) (ax, ay)) (tn (ex, ey) (fx, fy) (bx, dy)) else .none := by unfold meetM; rw [if_neg q, if_neg z, em]
        rw [w] at k
        by_cases y : tn (ex, ey) (fx, fy) (ax, ay) * tn (ex, ey) (fx, fy) (bx, dy) < 0 ∧ tn (ax, ay) (bx, dy) (ex, ey) * tn (ax, ay) (bx, dy) (fx, fy) < 0
        · rw [if_pos y] at k
          refine ⟨_, rfl, _, rfl, _, _, rfl, rfl, .inl (m64 t1), _, _, rfl, rfl, _, rfl, ifD (fun _ => ?_) (fun n => absurd y.1 n)⟩
          refine ⟨_, rfl, _, rfl, _, rfl, _, _, _, _, _, _, _, _, _, rfl, hg.a, hg.c, hh.a, ⟨hg.oa.sx, hg.oc.sx, hg.oa.sy, hg.oc.sy⟩, _, rfl, _, rfl, _, rfl, _, _, _, _, _, _, _, _, _, rfl, hg.a, hg.c, hh.c, ⟨hg.oa.sx, hg.oc.sx, hg.oa.sy, hg.oc.sy⟩, _, _, rfl, rfl, .inl (m64 t3), _, _, rfl, rfl, _, rfl, ifD (fun _ => ?_) (fun n => absurd y.2 n)⟩
          have hw : turnI ex ey fx fy ax ay - turnI ex ey fx fy bx dy ≠ 0 := by
            have := neg_signs y.1
            unfold tn at this
            dsimp only at this
            omega
          refine ⟨_, rfl, _, rfl, _, rfl, _, _, _, _, _, _, _, _, _, rfl, hg, hw, t1, t2, fun p1 q1 r1 H3 e3 hp1 hq1 hr1 => ?_⟩
          refine ⟨_, _, rfl, hp1, rfl, _, _, rfl, _, _, rfl, rfl, ?_⟩
          exact ⟨_, rfl, _, rfl, small rfl, fun t ht => k _ _ (same_then (e2.trans e3) ht) ⟨t, q1, r1, rfl, tHere, tOver ht hq1, tOver ht hr1⟩⟩
        · rw [if_neg y] at k
          refine ⟨_, rfl, _, rfl, _, _, rfl, rfl, .inl (m64 t1), _, _, rfl, rfl, _, rfl, ifD (fun n1 => ?_) (fun _ => ?_)⟩
          · refine ⟨_, rfl, _, rfl, _, rfl, _, _, _, _, _, _, _, _, _, rfl, hg.a, hg.c, hh.a, ⟨hg.oa.sx, hg.oc.sx, hg.oa.sy, hg.oc.sy⟩, _, rfl, _, rfl, _, rfl, _, _, _, _, _, _, _, _, _, rfl, hg.a, hg.c, hh.c, ⟨hg.oa.sx, hg.oc.sx, hg.oa.sy, hg.oc.sy⟩, _, _, rfl, rfl, .inl (m64 t3), _, _, rfl, rfl, _, rfl, ifD (fun n2 => absurd ⟨n1, n2⟩ y) (fun _ => ?_)⟩
            exact ⟨small rfl, fun p hp => k _ _ (same_then e2 hp) ⟨p, rfl, tHere⟩⟩
          · exact ⟨small rfl, fun p hp => k _ _ (same_then e2 hp) ⟨p, rfl, tHere⟩⟩
theorem ok_meeting (T : Txt K mg) (TB : TxtB T base w) : FnOk P w K mg base CX0 5 T.a_meeting T.d_meeting ["first", "second"] (fun vs H Q _ => ∃ (g a c h e f : Addr) (ax ay bx dy ex ey fx fy : Int), vs = [.ref g, .ref h] ∧ SegAt K H g a c ax ay bx dy ∧ SegAt K H h e f ex ey fx fy ∧ ∀ v H', Same H H' → MtAt K H' v (meetM (ax, ay) (bx, dy) (ex, ey) (fx, fy)) → Q v H') := by
  refine T.F_meeting.ok sc_meeting (fun vs H Q E h => ?_) (fun cdv A outer s H vs Q E hr h => ?_)
  · obtain ⟨g, a, c, h, e, f, ax, ay, bx, dy, ex, ey, fx, fy, rfl, hg, hh, k⟩ := h
    rfl
  · obtain ⟨g, a, c, h, e, f, ax, ay, bx, dy, ex, ey, fx, fy, rfl, hg, hh, k⟩ := h
    refine ⟨_, (pss_cons (ps_expr (pe_call (ok_need T TB) (hr.mono (by omega)) rfl T.m_need T.F_need.kp T.b_need .nil pass0 (pa_cons (pe_call (ok_is_segment T TB) (hr.mono (by omega)) rfl T.m_is_segment T.F_is_segment.kp T.b_is_segment .nil pass0 (pa_cons (pv 0) pa_nil)) (pa_cons pe_str pa_nil))))
      (pss_cons (ps_expr (pe_call (ok_need T TB) (hr.mono (by omega)) rfl T.m_need T.F_need.kp T.b_need .nil pass0 (pa_cons (pe_call (ok_is_segment T TB) (hr.mono (by omega)) rfl T.m_is_segment T.F_is_segment.kp T.b_is_segment .nil pass0 (pa_cons (pv 1) pa_nil)) (pa_cons pe_str pa_nil))))
      (pss_one (ps_ret (pe_call (ok_meeting_of T TB) (hr.mono (by omega)) rfl T.m_meeting_of T.F_meeting_of.kp T.b_meeting_of .nil pass0 (pa_cons (pv 0) (pa_cons (pv 1) pa_nil))))))), ?_⟩
    refine ⟨_, rfl, _, _, _, _, _, _, _, rfl, hg, _, _, rfl, rfl, ?_⟩
    refine ⟨_, rfl, _, _, _, _, _, _, _, rfl, hh, _, _, rfl, rfl, ?_⟩
    exact ⟨_, rfl, _, rfl, _, _, _, _, _, _, _, _, _, _, _, _, _, _, rfl, hg, hh, k⟩
theorem ok_ways_around (T : Txt K mg) (TB : TxtB T base w) : FnOk P w K mg base CX0 1 T.a_ways_around T.d_ways_around ["points"] (fun vs H Q _ => ∃ (a : Addr) (zs : List Zp), vs = [.ref a] ∧ LnAt K H a zs ∧ 1 ≤ zs.length ∧ zs.length ≤ 900 ∧ ∀ (l : Addr) (ps : List Addr) H', Same H H' → SqL K H' l (ps.map V.ref) → ps.length = zs.length → (∀ (i : Nat) p u w, ps[i]? = some p → zs[i]? = some u → (zs.drop 1 ++ zs.take 1)[i]? = some w → SqT K H' p [.ref u.1, .ref w.1]) → Q (.ref l) H') := by
  refine T.F_ways_around.ok sc_ways_around (fun vs H Q E h => ?_) (fun cdv A outer s H vs Q E hr h => ?_)
  · obtain ⟨a, zs, rfl, ha, l1, l2, k⟩ := h
    rfl
  · obtain ⟨a, zs, rfl, ha, l1, l2, k⟩ := h
    refine ⟨_, (pss_one (ps_ret (Zl.pe_listZip rfl (by rfl) T.n_list (by rfl) T.n_zip (pa_cons (pv 0) (pa_cons (pe_op op_catA (pe_slice sl_tupA (pv 0) (po_some pe_int) po_none) (pe_slice sl_tupA (pv 0) po_none (po_some pe_int))) pa_nil))))), ?_⟩
    refine ⟨_, rfl, _, rfl, _, rfl, ?_⟩
    refine noPart (slA_of ha.t fun q H2 s2 hq => ?_)
    rw [show ((1 : Int)) = ((1 : Nat) : Int) from rfl, cut_drop, ← List.map_drop] at hq
    refine ⟨_, rfl, _, rfl, ?_⟩
    refine slA_of (tSame s2 ha.t) fun q3 H3 s3 h3 => ?_
    rw [show ((1 : Int)) = ((1 : Nat) : Int) from rfl, cut_take, ← List.map_take] at h3
    have big : 1000 ≤ sizeLine := by decide
    refine catA_of (tSame s3 hq) h3 (by rw [List.length_map, List.length_map, List.length_drop, List.length_take]; omega) fun q4 H4 s4 h4 => ?_
    rw [← List.map_append] at h4
    have s := (s2.trans s3).trans s4
    refine ⟨_, _, _, _, rfl, (ha.same s).t, h4, by rw [List.length_map, List.length_map, List.length_append, List.length_drop, List.length_take]; omega, by rw [List.length_map]; omega, fun S ps H' hl old pairs free => ?_⟩
    refine k S ps _ (same_then (s.trans fun b o e => .inl (old b o e)) free) lHere (by rw [hl, List.length_map]) fun i p u w h1 h2 h3 => ?_
    exact tOver free (SqT.of (pairs i p _ _ h1 (by rw [List.getElem?_map, h2]; rfl) (by rw [List.getElem?_map, h3]; rfl)))
theorem ok_area_around (T : Txt K mg) (TB : TxtB T base w) : FnOk P w K mg base CX0 5 T.a_area_around T.d_area_around ["points"] (fun vs H Q _ => ∃ (a : Addr) (zs : List Zp), vs = [.ref a] ∧ LnAt K H a zs ∧ 1 ≤ zs.length ∧ zs.length ≤ 100 ∧ Tbs T.ts H ∧ ∀ H', Same H H' → Q (.int (around zs)) H') := by
  refine T.F_area_around.ok sc_area_around (fun vs H Q E h => ?_) (fun A outer s H vs Q E hr h => ?_)
  · obtain ⟨a, zs, rfl, ha, l1, l2, tb, k⟩ := h
    rfl
  · obtain ⟨a, zs, rfl, ha, l1, l2, tb, k⟩ := h
    refine ⟨_, (pss_one (ps_ret (Gx.pe_sum (own := [("p", 1), ("q", 2)]) (g := gTup K 2 (gCons (gName 1) (gCons (gName 2) gNil))) (tt := tYes) (x := "p") (k := 0) (hr.mono (by omega)) rfl sc_area_around.nd rfl T.n_sum TB.t_area_around rfl (Gx.genS_by rfl rfl (by decide +kernel) rfl rfl (by rfl)) (blkOk_by (own := [("p", 1), ("q", 2)]) (N := N_area_around) (sc := defScope s_area_around) (by decide +kernel)) (pi_list (pe_call (ok_ways_around T TB) (hr.mono (by omega)) rfl T.m_ways_around T.F_ways_around.kp T.b_ways_around .nil pass0 (pa_cons (pv 0) pa_nil))) (fun _ _ _ _ _ _ _ hB => (pg_tup (by rfl) (pgs_cons (pg_name (i := 1) sc_area_around.nd rfl (Or.inl rfl)) (pgs_cons (pg_name (i := 2) sc_area_around.nd rfl (Or.inl rfl)) pgs_nil)))) (fun _ _ _ _ _ _ _ hB => pts_nil) (fun _ _ _ _ _ _ _ hB => (pe_op op_sub (pe_op op_mul (pe_ix (r := rIxT K) ix_tup (pv 1) pe_int (fun _ _ => rfl)) (pe_ix (r := rIxT K) ix_tup (pv 2) pe_int (fun _ _ => rfl))) (pe_op op_mul (pe_ix (r := rIxT K) ix_tup (pv 1) pe_int (fun _ _ => rfl)) (pe_ix (r := rIxT K) ix_tup (pv 2) pe_int (fun _ _ => rfl))))) (fun _ => rfl)))), ?_⟩
    have mem2 : ∀ {w : Zp} {i : Nat}, (zs.drop 1 ++ zs.take 1)[i]? = some w → w ∈ zs := fun {w i} h => (List.mem_append.mp (List.mem_of_getElem? h)).elim List.mem_of_mem_drop List.mem_of_mem_take
    
    refine ⟨_, rfl, _, _, rfl, ha, l1, by omega, fun l ps H1 s1 hl hlen hps => ⟨_, rfl, ⟨_, hl⟩, (tb.same s1) _ (by simp [Txt.ts]), fun H2 g2 => ?_⟩⟩
    have s12 := same_tab ((tb.same s1) _ (by simp [Txt.ts])) g2
    have ln : (ps.map V.ref).length = zs.length := by rw [List.length_map]; exact hlen
    refine Gx.sum_walk walk_list (fun i t H' => Same H2 H' ∧ t = ((List.zipWith cr zs (zs.drop 1 ++ zs.take 1)).take i).sum ∧ t.natAbs ≤ i * 2097152) ⟨Same.refl _, rfl, by simp⟩ (fun i t H' h => h.1.seq (s12.seq hl)) ?_ ?_
    · rintro i t x H5 H6 hi ⟨s5, ht, tl⟩ ⟨rfl, hxi⟩
      rw [List.getElem?_map] at hxi
      obtain ⟨p, g1, rfl⟩ := Option.map_eq_some_iff.mp hxi
      have hi2 : i < zs.length := by omega
      obtain ⟨u, hu⟩ : ∃ u, zs[i]? = some u := ⟨_, List.getElem?_eq_getElem hi2⟩
      obtain ⟨w, hw⟩ : ∃ w, (zs.drop 1 ++ zs.take 1)[i]? = some w := ⟨_, List.getElem?_eq_getElem (by rw [List.length_append, List.length_drop, List.length_take]; omega)⟩
      have s15 := s12.trans s5
      have ha5 := ha.same (s1.trans s15)
      have pu := ha5.p.get hu
      have pw := ha5.p w (mem2 hw)
      have ou := ha.on _ (List.mem_of_getElem? hu)
      have ow := ha.on _ (mem2 hw)
      have hc : (cr u w).natAbs ≤ 2097152 := Nat.le_trans (cr_le ou ow) (by decide)
      refine ⟨_, _, rfl, tSame s15 (hps i p u w g1 hu hw), rfl, _, _, rfl, _, _, rfl, rfl, ⟨rfl, yesI ?_⟩⟩
      refine iteT ?_
      unfold On at ou ow
      refine ⟨_, rfl, _, _, _, _, rfl, rfl, pu, at0, _, rfl, _, _, _, _, rfl, rfl, pw, at1, _, _, rfl, rfl, .inl ⟨by omega, by omega⟩, _, rfl, _, _, _, _, rfl, rfl, pu, at1, _, rfl, _, _, _, _, rfl, rfl, pw, at0, _, _, rfl, rfl, .inl ⟨by omega, by omega⟩, _, _, rfl, rfl, cr u w, rfl, ⟨by omega, by omega⟩, ⟨by omega, by omega⟩, s5, ?_, by omega⟩
      rw [List.take_succ, List.getElem?_zipWith, hu, hw, List.sum_append, ht]
      simp
    · rintro t H5 ⟨s5, ht, tl⟩
      rw [ln, List.take_of_length_le (by rw [List.length_zipWith]; omega), area_sum l1] at ht
      rw [ht]
      exact k H5 ((s1.trans s12).trans s5)
theorem ok_do_follow (T : Txt K mg) (TB : TxtB T base w) : FnOk P w K mg base CX0 1 T.a_do_follow T.d_do_follow ["i", "j", "many"] (fun vs H Q _ => ∃ (i j n : Nat), vs = [.int i, .int j, .int n] ∧ Q (.bl (follow i j n)) H) := by
  refine T.F_do_follow.ok sc_do_follow (fun vs H Q E h => ?_) (fun cdv A outer s H vs Q E hr h => ?_)
  · obtain ⟨i, j, n, rfl, k⟩ := h
    rfl
  · obtain ⟨i, j, n, rfl, k⟩ := h
    refine ⟨_, (pss_one (ps_ret (pe_or (pe_cmpR op_eq (pv 1) (pe_op op_add (pv 0) pe_int) (nomark _)) (pe_one (pe_and (pe_cmpR op_eq (pv 0) pe_int (nomark _)) (pe_one (pe_cmpR op_eq (pv 1) (pe_op op_sub (pv 2) pe_int) (nomark _)))))))), ?_⟩
    unfold follow at k
    refine ⟨_, rfl, _, rfl, _, _, rfl, rfl, rfl, _, rfl, ifD (fun e => ?_) (fun e => ?_)⟩
    · rw [decide_eq_true (show j = i + 1 by injection e with e; omega), Bool.true_or] at k
      exact k
    rw [decide_eq_false (show ¬ j = i + 1 from fun z => e (by rw [z]; rfl)), Bool.false_or] at k
    refine ⟨_, rfl, rfl, _, rfl, ifD (fun e => ?_) (fun e => ?_)⟩
    · rw [decide_eq_true (show i = 0 by injection e with e; omega), Bool.true_and] at k
      refine ⟨_, rfl, _, rfl, _, _, rfl, rfl, rfl, ?_⟩
      rw [decide_eq_decide.mpr (show (V.int (j : Int) = V.int ((n : Int) - 1)) ↔ j + 1 = n from ⟨fun z => by injection z with z; omega, fun z => by rw [show (j : Int) = (n : Int) - 1 by omega]⟩)]
      exact k
    · rw [decide_eq_false (show ¬ i = 0 from fun z => e (by rw [z]; rfl)), Bool.false_and] at k
      exact k
theorem ok_is_simple (T : Txt K mg) (TB : TxtB T base w) : FnOk P w K mg base CX0 8 T.a_is_simple T.d_is_simple ["points"] (fun vs H Q _ => ∃ (a : Addr) (zs : List Zp), vs = [.ref a] ∧ LnAt K H a zs ∧ 3 ≤ zs.length ∧ zs.length ≤ 40 ∧ Tbs T.ts H ∧ ∀ b H', (b = true ↔ Simp zs) → Same H H' → Q (.bl b) H') := by
  refine T.F_is_simple.ok sc_is_simple (fun vs H Q E h => ?_) (fun A outer s H vs Q E hr h => ?_)
  · obtain ⟨a, zs, rfl, ha, l1, l2, tb, k⟩ := h
    rfl
  · obtain ⟨a, zs, rfl, ha, l1, l2, tb, k⟩ := h
    refine ⟨_, (pss_cons (ps_if (pt_val (Gx.pe_gen true (own := [("p", 6), ("q", 7)]) (g := gTup K 2 (gCons (gName 6) (gCons (gName 7) gNil))) (tt := tYes) (x := "p") (k := 0) rfl (hr.mono (by omega)) rfl sc_is_simple.nd rfl T.n_any TB.t_is_simple rfl (Gx.genS_by rfl rfl (by decide +kernel) rfl rfl (by rfl)) (blkOk_by (own := [("p", 6), ("q", 7)]) (N := N_is_simple) (sc := defScope s_is_simple) (by decide +kernel)) (pi_list (pe_call (ok_ways_around T TB) (hr.mono (by omega)) rfl T.m_ways_around T.F_ways_around.kp T.b_ways_around .nil pass0 (pa_cons (pv 0) pa_nil))) (fun _ _ _ _ _ _ _ hB => (pg_tup (by rfl) (pgs_cons (pg_name (i := 6) sc_is_simple.nd rfl (Or.inl rfl)) (pgs_cons (pg_name (i := 7) sc_is_simple.nd rfl (Or.inl rfl)) pgs_nil)))) (fun _ _ _ _ _ _ _ hB => pts_nil) (fun _ _ _ _ _ _ _ hB => (pe_cmpR (op_eqK (K := K) rfl hB.units) (pv 6) (pv 7) (nomark _))) (fun _ => rfl)))
        (pss_one (ps_ret pe_bl))
        pss_nil)
      (pss_cons (ps_set (i := 1) sc_is_simple.nd rfl (Or.inl rfl) (pe_call (ok_edges_along T TB) (hr.mono (by omega)) rfl T.m_edges_along T.F_edges_along.kp T.b_edges_along .nil pass0 (pa_cons (pe_op op_catA (pv 0) (pe_slice sl_tupA (pv 0) po_none (po_some pe_int))) pa_nil)))
      (pss_cons (ps_set (i := 2) sc_is_simple.nd rfl (Or.inl rfl) (pe_callB call_len (by rfl) T.n_len (by decide +kernel) (pa_cons (pv 1) pa_nil)))
      (pss_cons (ps_for PassesOwn.never rfl (pi_range1 rfl T.n_range (pa_cons (pv 2) pa_nil)) (pg_name (i := 3) sc_is_simple.nd rfl (Or.inl rfl))
        (pss_one (ps_for PassesOwn.never rfl (pi_range1 rfl T.n_range (pa_cons (pv 3) pa_nil)) (pg_name (i := 4) sc_is_simple.nd rfl (Or.inl rfl))
          (pss_cons (ps_set (i := 5) sc_is_simple.nd rfl (Or.inl rfl) (pe_ifExp (pt_val (pe_call (ok_do_follow T TB) (hr.mono (by omega)) rfl T.m_do_follow T.F_do_follow.kp T.b_do_follow .nil pass0 (pa_cons (pv 4) (pa_cons (pv 3) (pa_cons (pv 2) pa_nil))))) pe_str pe_str))
          (pss_one (ps_if (pt_cmpR op_ne (pe_ix (r := rIxT K) ix_tup (pe_call (ok_meeting_of T TB) (hr.mono (by omega)) rfl T.m_meeting_of T.F_meeting_of.kp T.b_meeting_of .nil pass0 (pa_cons (pe_ix (r := rIxL K) ix_list (pv 1) (pv 4) (fun _ _ => rfl)) (pa_cons (pe_ix (r := rIxL K) ix_list (pv 1) (pv 3) (fun _ _ => rfl)) pa_nil))) pe_int (fun _ _ => rfl)) (pv 5) (nomark _))
            (pss_one (ps_ret pe_bl))
            pss_nil))))))
      (pss_one (ps_ret pe_bl)))))), ?_⟩
    refine Gx.step_gen fun Q' hQ => ?_
    refine ⟨_, rfl, _, _, rfl, ha, by omega, by omega, fun l ps H1 s1 hl hlen hps => ⟨_, rfl, ⟨_, hl⟩, (tb.same s1) _ (by simp [Txt.ts]), fun H2 g2 => ?_⟩⟩
    have s12 := same_tab ((tb.same s1) _ (by simp [Txt.ts])) g2
    have lp : (ps.map V.ref).length = zs.length := by rw [List.length_map]; exact hlen
    have no : ∀ H', Same H H' → ¬ Simp zs → Q (.bl false) H' := fun H' s h => k false H' ⟨(fun z => by cases z), fun z => absurd z h⟩ s
    refine Gx.gen_walk walk_list (fun i H' => Same H2 H' ∧ ∀ j, j < i → pt zs j ≠ pt zs (j + 1)) ⟨Same.refl _, fun j h => absurd h (Nat.not_lt_zero _)⟩ (fun i H' h => h.1.seq (s12.seq hl)) ?_ ?_
    · rintro i x H5 H6 hi ⟨s5, hd⟩ ⟨rfl, hxi⟩
      rw [List.getElem?_map] at hxi
      obtain ⟨p, g1, rfl⟩ := Option.map_eq_some_iff.mp hxi
      obtain ⟨u, w, hu, hw, mu, mw, eu, ew⟩ := ring_next (zs := zs) (i := i) (by omega)
      have s15 := s12.trans s5
      have ha5 := ha.same (s1.trans s15)
      refine ⟨_, _, rfl, tSame s15 (hps i p u w g1 hu hw), rfl, _, _, rfl, _, _, rfl, rfl, ⟨rfl, yesI ?_⟩⟩
      refine iteT ?_
      refine ⟨_, rfl, _, rfl, _, _, _, _, _, _, rfl, rfl, ha5.p u mu, ha5.p w mw, _, rfl, ?_⟩
      by_cases q : u.2.1 = w.2.1 ∧ u.2.2 = w.2.2
      · rw [decide_eq_true q]
        refine (if_pos rfl).mpr ?_
        rw [hQ]
        exact ⟨_, rfl, iteT (no _ (s1.trans s15) fun S => absurd (by rw [eu, ew]; exact pt_eq q.1 q.2) (S.ne i (by omega)))⟩
      · rw [decide_eq_false q]
        refine (if_neg (by decide)).mpr ⟨s5, fun j hj => ?_⟩
        by_cases e : j = i
        · subst e
          rw [eu, ew]
          exact fun z => q ⟨congrArg Prod.fst z, congrArg Prod.snd z⟩
        · exact hd j (by omega)
    rintro H5 ⟨s5, hd⟩
    rw [hQ]
    refine ⟨_, rfl, iteF ?_⟩
    rw [lp] at hd
    have s15 := (s1.trans s12).trans s5
    have ha5 := ha.same s15
    refine ⟨_, rfl, _, rfl, _, rfl, ?_⟩
    refine slA_of ha5.t fun q3 H6 s6 h3 => ?_
    rw [show ((1 : Int)) = ((1 : Nat) : Int) from rfl, cut_take, refs_take] at h3
    have big : 1000 ≤ sizeLine := by decide
    refine catA_of (tSame s6 ha5.t) h3 (by rw [refs_len, refs_len, List.length_take]; omega) fun q4 H7 s7 h4 => ?_
    rw [← refs_app] at h4
    have hln4 : LnAt K H7 q4 (zs ++ zs.take 1) := (ha5.same (s6.trans s7)).sub (fun z hz => (List.mem_append.mp hz).elim id List.mem_of_mem_take) h4
    have lr := row_len (zs := zs) (by omega)
    have hne : Ne (zs ++ zs.take 1) := fun i u w h1 h2 z => by
      have := (List.getElem?_eq_some_iff.mp h2).1
      refine hd i (by omega) ?_
      rw [(ring_row h1).1, (ring_row h2).1]
      exact pt_eq z.1 z.2
    refine ⟨_, _, rfl, hln4, by omega, by omega, hne, fun l2 gs H8 s8 hl2 hlen2 hgs => ?_⟩
    have lg : (gs.map V.ref).length = zs.length := by rw [List.length_map]; omega
    have s18 := ((s15.trans s6).trans s7).trans s8
    refine ⟨_, rfl, _, _, rfl, .inl ⟨_, hl2, rfl⟩, ?_⟩
    refine ⟨_, rfl, _, rfl, by omega, by omega, for_range (lo := 0) (n := (gs.map V.ref).length) (fun j σ H' => Same H8 H' ∧ (∃ (o3 o4 o5 : Option V), σ = [some (.ref a), some (.ref l2), some (.int (gs.map V.ref).length), o3, o4, o5, none, none]) ∧ ∀ j', j' < j → ∀ i', i' < j' → (if follow i' j' zs.length = true then isT (mt2 (pt zs i') (pt zs (i' + 1)) (pt zs j') (pt zs (j' + 1))) = true else mt2 (pt zs i') (pt zs (i' + 1)) (pt zs j') (pt zs (j' + 1)) = .none)) ⟨Same.refl _, ⟨none, none, none, rfl⟩, fun j' h => absurd h (Nat.not_lt_zero _)⟩ ?_ ?_⟩
    rotate_left
    · rintro σ H9 ⟨s9, ⟨o3, o4, o5, rfl⟩, hg⟩
      rw [lg] at hg
      exact k true _ ⟨fun _ => (looked_iff l1).mp ⟨hd, hg⟩, fun _ => rfl⟩ (s18.trans s9)
    rintro j σ H9 hj ⟨s9, ⟨o3, o4, o5, rfl⟩, hg⟩
    refine ⟨_, rfl, _, rfl, by omega, by omega, for_range (lo := 0) (n := (0 + (j : Int)).toNat) (fun i σ H' => Same H8 H' ∧ (∃ (o4 o5 : Option V), σ = [some (.ref a), some (.ref l2), some (.int (gs.map V.ref).length), some (.int (0 + (j : Int))), o4, o5, none, none]) ∧ ∀ i', i' < i → ∀ j', j' = j → (if follow i' j' zs.length = true then isT (mt2 (pt zs i') (pt zs (i' + 1)) (pt zs j') (pt zs (j' + 1))) = true else mt2 (pt zs i') (pt zs (i' + 1)) (pt zs j') (pt zs (j' + 1)) = .none)) ⟨s9, ⟨_, _, rfl⟩, fun i' h => absurd h (Nat.not_lt_zero _)⟩ ?_ ?_⟩
    rotate_left
    · rintro σ H10 ⟨s10, ⟨o4', o5', rfl⟩, hi⟩
      refine ⟨s10, ⟨_, _, _, rfl⟩, fun j' h i' h' => ?_⟩
      by_cases e : j' = j
      · subst e
        exact hi i' (by omega) j' rfl
      · exact hg j' (by omega) i' h'
    rintro i σ H10 hi ⟨s10, ⟨o4', o5', rfl⟩, hh⟩
    have hi : i < j := by omega
    have hj : j < zs.length := by omega
    refine ⟨_, rfl, _, rfl, _, rfl, i, j, (gs.map V.ref).length, by rw [Int.zero_add, Int.zero_add]; rfl, ?_⟩
    rw [lg]
    obtain ⟨ui, wi, hui, hwi, mui, mwi, eui, ewi⟩ := row_at (zs := zs) (i := i) (by omega)
    obtain ⟨uj, wj, huj, hwj, muj, mwj, euj, ewj⟩ := row_at (zs := zs) (i := j) hj
    obtain ⟨gi, hgi⟩ : ∃ g, gs[i]? = some g := ⟨_, List.getElem?_eq_getElem (by omega)⟩
    obtain ⟨gj, hgj⟩ : ∃ g, gs[j]? = some g := ⟨_, List.getElem?_eq_getElem (by omega)⟩
    obtain ⟨ai, ci, Si⟩ := ((hgs i gi ui wi hgi hui hwi).same s10).ord
    obtain ⟨aj, cj, Sj⟩ := ((hgs j gj uj wj hgj huj hwj).same s10).ord
    rw [← eui, ← ewi] at Si
    rw [← euj, ← ewj] at Sj
    have hl10 := s10.seq hl2
    have xi : atI (gs.map V.ref) (0 + (i : Int)) = some (.ref gi) := at_of (Int.zero_add _) (by rw [List.getElem?_map, hgi]; rfl)
    have xj : atI (gs.map V.ref) (0 + (j : Int)) = some (.ref gj) := at_of (Int.zero_add _) (by rw [List.getElem?_map, hgj]; rfl)
    have s110 := s18.trans s10
    have next : ∀ H', Same H10 H' → (if follow i j zs.length = true then isT (mt2 (pt zs i) (pt zs (i + 1)) (pt zs j) (pt zs (j + 1))) = true else mt2 (pt zs i) (pt zs (i + 1)) (pt zs j) (pt zs (j + 1)) = .none) → Same H8 H' ∧ ∀ i', i' < i + 1 → ∀ j', j' = j → (if follow i' j' zs.length = true then isT (mt2 (pt zs i') (pt zs (i' + 1)) (pt zs j') (pt zs (j' + 1))) = true else mt2 (pt zs i') (pt zs (i' + 1)) (pt zs j') (pt zs (j' + 1)) = .none) := fun H' s' h => ⟨s10.trans s', fun i' hi' j' hj' => by
      by_cases e : i' = i
      · subst e hj'
        exact h
      · exact hh i' (by omega) j' hj'⟩
    have stop : ∀ H', Same H10 H' → ¬ (if follow i j zs.length = true then isT (mt2 (pt zs i) (pt zs (i + 1)) (pt zs j) (pt zs (j + 1))) = true else mt2 (pt zs i) (pt zs (i + 1)) (pt zs j) (pt zs (j + 1)) = .none) → Q (.bl false) H' := fun H' s' h => no _ (s110.trans s') fun S => h (((looked_iff l1).mpr S).2 j hj i hi)
    refine ⟨_, rfl, ifB (fun f => ?_) (fun f => ?_)⟩
    · rw [f, if_pos rfl] at next stop
      refine ⟨_, rfl, _, rfl, _, _, _, _, rfl, rfl, hl10, xi, _, rfl, _, rfl, _, _, _, _, rfl, rfl, hl10, xj, _, _, _, _, _, _, _, _, _, _, _, _, _, _, rfl, Si, Sj, fun v H11 s11 hm => ?_⟩
      have hm : MtAt K H11 v (mt2 (pt zs i) (pt zs (i + 1)) (pt zs j) (pt zs (j + 1))) := hm
      obtain ⟨p, xs, rfl, hp, h0⟩ := hm.first
      refine ⟨_, _, _, _, rfl, rfl, hp, h0, _, rfl, rfl, _, rfl, ifND (fun e => ?_) (fun e => ?_)⟩
      · exact stop _ s11 fun t => e (congrArg V.str (mtS_touch.mpr t))
      · obtain ⟨n1, n2⟩ := next _ s11 (mtS_touch.mp (by injection e))
        exact ⟨n1, ⟨_, _, rfl⟩, n2⟩
    · rw [f, if_neg (by decide)] at next stop
      refine ⟨_, rfl, _, rfl, _, _, _, _, rfl, rfl, hl10, xi, _, rfl, _, rfl, _, _, _, _, rfl, rfl, hl10, xj, _, _, _, _, _, _, _, _, _, _, _, _, _, _, rfl, Si, Sj, fun v H11 s11 hm => ?_⟩
      have hm : MtAt K H11 v (mt2 (pt zs i) (pt zs (i + 1)) (pt zs j) (pt zs (j + 1))) := hm
      obtain ⟨p, xs, rfl, hp, h0⟩ := hm.first
      refine ⟨_, _, _, _, rfl, rfl, hp, h0, _, rfl, rfl, _, rfl, ifND (fun e => ?_) (fun e => ?_)⟩
      · exact stop _ s11 fun t => e (congrArg V.str (mtS_none.mpr t))
      · obtain ⟨n1, n2⟩ := next _ s11 (mtS_none.mp (by injection e))
        exact ⟨n1, ⟨_, _, rfl⟩, n2⟩
theorem ok_goes_around (T : Txt K mg) (TB : TxtB T base w) : FnOk P w K mg base CX0 9 T.a_goes_around T.d_goes_around ["value"] (fun vs H Q _ => ∃ (a : Addr) (zs : List Zp), vs = [.ref a] ∧ LnAt K H a zs ∧ zs.length ≤ 1000 ∧ Tbs T.ts H ∧ ∀ b H', (b = true ↔ 3 ≤ zs.length ∧ zs.length ≤ 40 ∧ Simp zs) → Same H H' → Q (.bl b) H') := by
  refine T.F_goes_around.ok sc_goes_around (fun vs H Q E h => ?_) (fun cdv A outer s H vs Q E hr h => ?_)
  · obtain ⟨a, zs, rfl, ha, l2, tb, k⟩ := h
    rfl
  · obtain ⟨a, zs, rfl, ha, l2, tb, k⟩ := h
    refine ⟨_, (pss_one (ps_ret (pe_and (pe_call (ok_are_points T TB) (hr.mono (by omega)) rfl T.m_are_points T.F_are_points.kp T.b_are_points .nil pass0 (pa_cons (pv 0) (pa_cons (pe_gI T.c_LEAST_OF_RING) (pa_cons (pe_gI T.c_MOST_OF_RING) pa_nil)))) (pe_one (pe_call (ok_is_simple T TB) (hr.mono (by omega)) rfl T.m_is_simple T.F_is_simple.kp T.b_is_simple .nil pass0 (pa_cons (pv 0) pa_nil)))))), ?_⟩
    refine ⟨_, rfl, _, _, _, _, rfl, ha.av l2, tb, fun H1 s1 => ⟨_, rfl, ?_⟩⟩
    refine ifB (fun e => ?_) (fun e => ?_)
    · obtain ⟨g1, g2⟩ := Bool.and_eq_true _ _ ▸ e
      have g1 := of_decide_eq_true g1
      have g2 := of_decide_eq_true g2
      exact ⟨_, rfl, _, _, rfl, ha.same s1, by omega, by omega, tb.same s1, fun b H2 hb s2 => k b H2 (hb.trans ⟨fun z => ⟨by omega, by omega, z⟩, fun z => z.2.2⟩) (s1.trans s2)⟩
    · have k := k false H1 ⟨(fun z => by cases z), fun z => by
        rw [decide_eq_true (by omega), decide_eq_true (by omega)] at e
        cases e⟩ s1
      exact k
theorem ok_is_ring (T : Txt K mg) (TB : TxtB T base w) : FnOk P w K mg base CX0 10 T.a_is_ring T.d_is_ring ["value"] (fun vs H Q _ => ∃ (a : Addr) (zs : List Zp), vs = [.ref a] ∧ LnAt K H a zs ∧ zs.length ≤ 1000 ∧ Tbs T.ts H ∧ ∀ b H', (b = true ↔ RingOk zs) → Same H H' → Q (.bl b) H') := by
  refine T.F_is_ring.ok sc_is_ring (fun vs H Q E h => ?_) (fun cdv A outer s H vs Q E hr h => ?_)
  · obtain ⟨a, zs, rfl, ha, l2, tb, k⟩ := h
    rfl
  · obtain ⟨a, zs, rfl, ha, l2, tb, k⟩ := h
    refine ⟨_, (pss_one (ps_ret (pe_and (pe_call (ok_goes_around T TB) (hr.mono (by omega)) rfl T.m_goes_around T.F_goes_around.kp T.b_goes_around .nil pass0 (pa_cons (pv 0) pa_nil)) (pe_and (pe_cmpR op_gt (pe_call (ok_area_around T TB) (hr.mono (by omega)) rfl T.m_area_around T.F_area_around.kp T.b_area_around .nil pass0 (pa_cons (pv 0) pa_nil)) pe_int (nomark _)) (pe_one (pe_cmpR (op_eqP hr.units) (pe_ix (r := rIxT K) ix_tup (pv 0) pe_int (fun _ _ => rfl)) (pe_callB (cr_minT rfl hr.units) (by rfl) T.n_min (by decide +kernel) (pa_cons (pv 0) pa_nil)) (nomark _))))))), ?_⟩
    refine ⟨_, rfl, _, _, rfl, ha, l2, tb, fun b1 H1 hb1 s1 => ⟨_, rfl, ifB (fun e1 => ?_) (fun e1 => ?_)⟩⟩
    rotate_left
    · exact k false H1 ⟨(fun z => by cases z), fun R => by rw [hb1.mpr ⟨R.l3, R.lm, R.simp⟩] at e1; cases e1⟩ s1
    obtain ⟨g1, g2, g3⟩ := hb1.mp e1
    refine ⟨_, rfl, _, _, rfl, ha.same s1, by omega, by omega, tb.same s1, fun H2 s2 => ⟨_, _, rfl, rfl, _, rfl, ifB (fun e2 => ?_) (fun e2 => ?_)⟩⟩
    rotate_left
    · exact k false H2 ⟨(fun z => by cases z), fun R => absurd R.pos (of_decide_eq_false e2)⟩ (s1.trans s2)
    have s12 := s1.trans s2
    have ha2 := ha.same s12
    obtain ⟨z0, h0⟩ : ∃ z, zs[0]? = some z := ⟨_, List.getElem?_eq_getElem (by omega)⟩
    have m0 := List.mem_of_getElem? h0
    refine ⟨_, rfl, _, _, _, _, rfl, rfl, ha2.t, atI_nat (j := 0) (by rw [List.getElem?_map, h0]; rfl), _, rfl, _, _, rfl, .inl ha2.t, ha2.p, by omega, fun z mz hz => ?_⟩
    refine ⟨_, _, _, _, _, _, rfl, rfl, ha2.p z0 m0, ha2.p z mz, ?_⟩
    refine k _ H2 ?_ s12
    rw [decide_eq_true_eq]
    have p0 : pt zs 0 = z0.2 := pt_at h0
    constructor
    · rintro ⟨z1, z2⟩
      exact ⟨g1, g2, g3, of_decide_eq_true e2, fun w hw => by rw [p0, show z0.2 = z.2 from pt_eq z1 z2]; exact hz w hw⟩
    · intro R
      have e := lt_tri (hz z0 m0) (by have := R.least z mz; rw [p0] at this; exact this)
      rw [e]
      exact ⟨rfl, rfl⟩
theorem ok_ring_of (T : Txt K mg) (TB : TxtB T base w) : FnOk P w K mg base CX0 10 T.a_ring_of T.d_ring_of ["points"] (fun vs H Q _ => ∃ (a : Addr) (zs : List Zp), vs = [.ref a] ∧ TN H a (refs zs) ∧ LnAt K H a zs ∧ 3 ≤ zs.length ∧ zs.length ≤ 40 ∧ Simp zs ∧ Tbs T.ts H ∧ ∀ (c : Addr) (ws : List Zp) H', LnAt K H' c ws → Made zs ws → Same H H' → Q (.ref c) H') := by
  refine T.F_ring_of.ok sc_ring_of (fun vs H Q E h => ?_) (fun cdv A outer s H vs Q E hr h => ?_)
  · obtain ⟨a, zs, rfl, hn, ha, l1, l2, hs, tb, k⟩ := h
    rfl
  · obtain ⟨a, zs, rfl, hn, ha, l1, l2, hs, tb, k⟩ := h
    refine ⟨_, (pss_cons (ps_expr (pe_call (ok_need T TB) (hr.mono (by omega)) rfl T.m_need T.F_need.kp T.b_need .nil pass0 (pa_cons (pe_call (ok_goes_around T TB) (hr.mono (by omega)) rfl T.m_goes_around T.F_goes_around.kp T.b_goes_around .nil pass0 (pa_cons (pv 0) pa_nil)) (pa_cons pe_str pa_nil))))
      (C8.pss_cut (ps_if (pt_cmpR op_lt (pe_call (ok_area_around T TB) (hr.mono (by omega)) rfl T.m_area_around T.F_area_around.kp T.b_area_around .nil pass0 (pa_cons (pv 0) pa_nil)) pe_int (nomark _))
        (pss_one (ps_set (i := 0) sc_ring_of.nd rfl (Or.inl rfl) (pe_revTN (pv 0))))
        pss_nil)
      (pss_cons (ps_set (i := 1) sc_ring_of.nd rfl (Or.inl rfl) (pe_bmT PySem.F.slot_tuple_index PySem.F.type_tuple_index (mt_indexT hr.units65) (pv 0) (pa_cons (pe_callB (cr_minT rfl hr.units) (by rfl) T.n_min (by decide +kernel) (pa_cons (pv 0) pa_nil)) pa_nil)))
      (pss_one (ps_ret (pe_op op_catA (pe_slice sl_tupA (pv 0) (po_some (pv 1)) po_none) (pe_slice sl_tupA (pv 0) po_none (po_some (pv 1))))))))), ?_⟩
    refine ⟨_, rfl, _, _, rfl, ha, by omega, tb, fun b H1 hb s1 => ⟨_, _, rfl, hb.mpr ⟨l1, l2, hs⟩, ?_⟩⟩
    refine ⟨fun σ' H' => ∃ (c : Addr) (ys : List Zp), σ' = [some (.ref c), none] ∧ Same H H' ∧ TN H' c (refs ys) ∧ LnAt K H' c ys ∧ ys = (if around zs < 0 then zs.reverse else zs), ?_, ?_⟩
    · refine ⟨_, rfl, _, _, rfl, ha.same s1, by omega, by omega, tb.same s1, fun H2 s2 => ⟨_, _, rfl, rfl, _, rfl, ifD (fun e => ?_) (fun e => ⟨a, zs, rfl, s1.trans s2, hn.same (s1.trans s2), ha.same (s1.trans s2), by rw [if_neg e]⟩)⟩⟩
      have ha2 := ha.same (s1.trans s2)
      refine ⟨_, rfl, _, _, rfl, ha2.t, by rw [refs_len]; omega, fun p o hp ho => ?_⟩
      have s3 := same_new (o := HO.frz o (.tup (refs zs).reverse)) hp
      have er : refs zs.reverse = (refs zs).reverse := List.map_reverse
      exact ⟨p, zs.reverse, rfl, (s1.trans s2).trans s3, by rw [er]; exact .here ho, (ha2.same s3).sub (fun z hz => List.mem_reverse.mp hz) (by rw [er]; exact (TN.here ho).t), by rw [if_pos e]⟩
    rintro σ' H2 ⟨c, ys, rfl, s2, hnc, hy, ey⟩
    have ly : ys.length = zs.length := by rw [ey]; split <;> simp
    refine ⟨_, rfl, ⟨_, _, rfl, hnc⟩, _, rfl, _, _, rfl, .inl hy.t, hy.p, by omega, fun z mz hz => ?_⟩
    obtain ⟨j, w, h1, h2, h3⟩ := first_idx ys z mz
    have mw := List.mem_of_getElem? h1
    have hj := (List.getElem?_eq_some_iff.mp h1).1
    refine ⟨_, _, _, _, _, j, w, rfl, rfl, hy.t, hy.p, hy.p z mz, h1, congrArg Prod.fst h2, congrArg Prod.snd h2, fun m u hm hu e => h3 m u hm hu (pt_eq e.1 e.2), ?_⟩
    have big : 1000 ≤ sizeLine := by decide
    refine ⟨_, rfl, _, rfl, _, rfl, ?_⟩
    refine noPart (slA_of hy.t fun q1 H3 s3 t1 => ?_)
    rw [cut_drop, refs_drop] at t1
    refine ⟨_, rfl, _, rfl, _, rfl, ?_⟩
    refine slA_of (tSame s3 hy.t) fun q2 H4 s4 t2 => ?_
    rw [cut_take, refs_take] at t2
    refine catA_of (tSame s4 t1) t2 (by rw [refs_len, refs_len, List.length_drop, List.length_take]; omega) fun q3 H5 s5 t3 => ?_
    rw [← refs_app] at t3
    have s35 := (s3.trans s4).trans s5
    exact k q3 _ H5 ((hy.same s35).sub (fun z hz => (List.mem_append.mp hz).elim List.mem_of_mem_drop List.mem_of_mem_take) t3) ⟨⟨ys, j, w, ey, h1, fun u hu => by rw [h2]; exact hz u hu, fun m u hm hu => by rw [h2]; exact h3 m u hm hu, rfl⟩⟩ (s2.trans s35)
theorem ok_place_in (T : Txt K mg) (TB : TxtB T base w) : FnOk P w K mg base CX0 14 T.a_place_in T.d_place_in ["p", "ring"] (fun vs H Q _ => ∃ (p a : Addr) (px py : Int) (zs : List Zp), vs = [.ref p, .ref a] ∧ SqT K H p [.int px, .int py] ∧ On px py ∧ LnAt K H a zs ∧ RingOk zs ∧ Tbs T.ts H ∧ ∀ H', Same H H' → Q (.str (placeS (px, py) zs)) H') := by
  refine T.F_place_in.ok sc_place_in (fun vs H Q E h => ?_) (fun A outer s H vs Q E hr h => ?_)
  · obtain ⟨p, a, px, py, zs, rfl, hp, op, ha, ok, tb, k⟩ := h
    rfl
  · obtain ⟨p, a, px, py, zs, rfl, hp, op, ha, ok, tb, k⟩ := h
    refine ⟨_, (pss_cons (ps_expr (pe_call (ok_need T TB) (hr.mono (by omega)) rfl T.m_need T.F_need.kp T.b_need .nil pass0 (pa_cons (pe_call (ok_is_point T TB) (hr.mono (by omega)) rfl T.m_is_point T.F_is_point.kp T.b_is_point .nil pass0 (pa_cons (pv 0) pa_nil)) (pa_cons pe_str pa_nil))))
      (pss_cons (ps_expr (pe_call (ok_need T TB) (hr.mono (by omega)) rfl T.m_need T.F_need.kp T.b_need .nil pass0 (pa_cons (pe_call (ok_is_ring T TB) (hr.mono (by omega)) rfl T.m_is_ring T.F_is_ring.kp T.b_is_ring .nil pass0 (pa_cons (pv 1) pa_nil)) (pa_cons pe_str pa_nil))))
      (pss_cons (ps_if (pt_val (Gx.pe_gen true (own := [("edge", 3)]) (g := gName 3) (tt := tYes) (x := "edge") (k := 2) rfl (hr.mono (by omega)) rfl sc_place_in.nd rfl T.n_any TB.t_place_in rfl (Gx.genS_by rfl rfl (by decide +kernel) rfl rfl (by rfl)) (blkOk_by (own := [("edge", 3)]) (N := N_place_in) (sc := defScope s_place_in) (by decide +kernel)) (pi_list (pe_call (ok_edges_along T TB) (hr.mono (by omega)) rfl T.m_edges_along T.F_edges_along.kp T.b_edges_along .nil pass0 (pa_cons (pe_op op_catA (pv 1) (pe_slice sl_tupA (pv 1) po_none (po_some pe_int))) pa_nil))) (fun _ _ _ _ _ _ _ hB => (pg_name (i := 3) sc_place_in.nd rfl (Or.inl rfl))) (fun _ _ _ _ _ _ _ hB => pts_nil) (fun _ _ _ _ _ _ _ hB => (pe_call (ok_is_on T TB) (hB.mono (by omega)) rfl T.m_is_on T.F_is_on.kp T.b_is_on .nil pass0 (pa_cons (pv 0) (pa_cons (pv 3) pa_nil)))) (fun _ => rfl)))
        (pss_one (ps_ret pe_str))
        pss_nil)
      (pss_cons (ps_set (i := 2) sc_place_in.nd rfl (Or.inl rfl) (Gx.pe_sum (own := [("a", 4), ("b", 5)]) (g := gTup K 2 (gCons (gName 4) (gCons (gName 5) gNil))) (x := "a") (k := 2) (hr.mono (by omega)) rfl sc_place_in.nd rfl T.n_sum TB.t_place_in rfl (Gx.genS_by rfl rfl (by decide +kernel) rfl rfl (by rfl)) (blkOk_by (own := [("a", 4), ("b", 5)]) (N := N_place_in) (sc := defScope s_place_in) (by decide +kernel)) (pi_list (pe_call (ok_ways_around T TB) (hr.mono (by omega)) rfl T.m_ways_around T.F_ways_around.kp T.b_ways_around .nil pass0 (pa_cons (pv 1) pa_nil))) (fun _ _ _ _ _ _ _ hB => (pg_tup (by rfl) (pgs_cons (pg_name (i := 4) sc_place_in.nd rfl (Or.inl rfl)) (pgs_cons (pg_name (i := 5) sc_place_in.nd rfl (Or.inl rfl)) pgs_nil)))) (fun _ _ _ _ _ _ _ hB => (pts_one (pt_val (pe_call (ok_crosses_east T TB) (hB.mono (by omega)) rfl T.m_crosses_east T.F_crosses_east.kp T.b_crosses_east .nil pass0 (pa_cons (pv 0) (pa_cons (pv 4) (pa_cons (pv 5) pa_nil))))))) (fun _ _ _ _ _ _ _ hB => pe_int) (fun _ => rfl)))
      (pss_one (ps_ret (pe_ifExp (pt_truth (pe_op op_and (pv 2) pe_int) (by intro _; rfl)) pe_str pe_str))))))), ?_⟩
    have l1 := ok.l3
    have l2 := ok.lm
    refine ⟨_, rfl, _, _, rfl, .pt hp op, _, _, rfl, rfl, ?_⟩
    refine ⟨_, rfl, _, _, rfl, ha, by omega, tb, fun b1 H1 hb s1 => ⟨_, _, rfl, hb.mpr ok, ?_⟩⟩
    dsimp only
    refine Gx.step_gen fun Q' hQ => ?_
    have ha1 := ha.same s1
    refine ⟨_, rfl, _, rfl, _, rfl, ?_⟩
    refine slA_of ha1.t fun q3 H6 s6 h3 => ?_
    rw [show ((1 : Int)) = ((1 : Nat) : Int) from rfl, cut_take, refs_take] at h3
    have big : 1000 ≤ sizeLine := by decide
    refine catA_of (tSame s6 ha1.t) h3 (by rw [refs_len, refs_len, List.length_take]; omega) fun q4 H7 s7 h4 => ?_
    rw [← refs_app] at h4
    have hln4 : LnAt K H7 q4 (zs ++ zs.take 1) := (ha1.same (s6.trans s7)).sub (fun z hz => (List.mem_append.mp hz).elim id List.mem_of_mem_take) h4
    have lr := row_len (zs := zs) (by omega)
    have hne : Ne (zs ++ zs.take 1) := fun i u w h1 h2 z => by
      have := (List.getElem?_eq_some_iff.mp h2).1
      refine ok.simp.ne i (by omega) ?_
      rw [(ring_row h1).1, (ring_row h2).1]
      exact pt_eq z.1 z.2
    refine ⟨_, _, rfl, hln4, by omega, by omega, hne, fun l2_ gs H8 s8 hl2 hlen2 hgs => ?_⟩
    have s18 := (s1.trans s6).trans (s7.trans s8)
    have lg : (gs.map V.ref).length = zs.length := by rw [List.length_map]; omega
    refine ⟨_, rfl, ⟨_, hl2⟩, (tb.same s18) _ (by simp [Txt.ts]), fun H9 g9 => ?_⟩
    have s9 := same_tab ((tb.same s18) _ (by simp [Txt.ts])) g9
    refine Gx.gen_walk walk_list (fun i H' => Same H8 H' ∧ ∀ j, j < i → box (px, py) (pt zs j) (pt zs (j + 1)) = false) ⟨s9, fun j h => absurd h (Nat.not_lt_zero _)⟩ (fun i H' h => h.1.seq hl2) ?_ ?_
    · rintro i x H10 H11 hi ⟨s10, hd⟩ ⟨rfl, hxi⟩
      rw [List.getElem?_map] at hxi
      obtain ⟨g, g1, rfl⟩ := Option.map_eq_some_iff.mp hxi
      obtain ⟨u, w, hu, hw, mu, mw, eu, ew⟩ := row_at (zs := zs) (i := i) (by omega)
      obtain ⟨ai, ci, Si⟩ := ((hgs i g u w g1 hu hw).same s10).ord
      have s110 := s18.trans s10
      refine ⟨rfl, yesI ?_⟩
      refine iteT ?_
      refine ⟨_, rfl, _, rfl, _, _, _, _, _, _, _, _, _, _, rfl, tSame s110 hp, Si, op, _, rfl, ?_⟩
      have eb : onI (ord u.2 w.2).1.1 (ord u.2 w.2).1.2 (ord u.2 w.2).2.1 (ord u.2 w.2).2.2 px py = box (px, py) (pt zs i) (pt zs (i + 1)) := by
        rw [eu, ew]
        exact box_ord (p := (px, py)) (by have := ok.simp.ne i (by omega); rw [eu, ew] at this; exact this)
      rw [eb]
      by_cases q : box (px, py) (pt zs i) (pt zs (i + 1)) = true
      · refine (if_pos q).mpr ?_
        rw [hQ]
        have k := k _ s110
        unfold placeS at k
        rw [if_pos (onRing_yes (by omega) q)] at k
        exact ⟨_, rfl, iteT k⟩
      · refine (if_neg q).mpr ⟨s10, fun j hj => ?_⟩
        by_cases e : j = i
        · subst e
          exact Bool.eq_false_iff.mpr q
        · exact hd j (by omega)
    rintro H10 ⟨s10, hd⟩
    rw [hQ]
    refine ⟨_, rfl, iteF ?_⟩
    rw [lg] at hd
    have s110 := s18.trans s10
    have ha10 := ha.same s110
    have tb10 := tb.same s110
    unfold tNext
    dsimp only
    refine Gx.asg_sum fun Q2 hQ2 => ?_
    refine ⟨_, rfl, _, _, rfl, ha10, by omega, by omega, fun l ps H11 s11 hl hlen hps => ⟨_, rfl, ⟨_, hl⟩, (tb10.same s11) _ (by simp [Txt.ts]), fun H12 g12 => ?_⟩⟩
    have s12 := same_tab ((tb10.same s11) _ (by simp [Txt.ts])) g12
    have lp : (ps.map V.ref).length = zs.length := by rw [List.length_map]; exact hlen
    refine Gx.sum_walk walk_list (fun i t H' => Same H12 H' ∧ t = (cntE (px, py) zs i : Int)) ⟨Same.refl _, rfl⟩ (fun i t H' h => h.1.seq (s12.seq hl)) ?_ ?_
    · rintro i t x H13 H14 hi ⟨s13, ht⟩ ⟨rfl, hxi⟩
      rw [List.getElem?_map] at hxi
      obtain ⟨g, g1, rfl⟩ := Option.map_eq_some_iff.mp hxi
      obtain ⟨u, w, hu, hw, mu, mw, eu, ew⟩ := ring_next (zs := zs) (i := i) (by omega)
      have s1213 := s12.trans s13
      have sa := (s110.trans s11).trans s1213
      have haa := ha.same sa
      have cl := cntE_le (px, py) zs i
      refine ⟨_, _, rfl, tSame s1213 (hps i g u w g1 hu hw), rfl, _, _, rfl, _, _, rfl, rfl, ⟨rfl, ?_⟩⟩
      refine ⟨_, rfl, _, rfl, _, rfl, _, _, _, (px, py), u.2, w.2, rfl, tSame sa hp, haa.p u mu, haa.p w mw, ⟨ha.on u mu, ha.on w mw⟩, fun H15 s15 => ⟨_, rfl, ?_⟩⟩
      have es : cntE (px, py) zs (i + 1) = cntE (px, py) zs i + b2n (eastB (px, py) u.2 w.2) := by
        show _ + b2n (eastB _ (pt zs i) (pt zs (i + 1))) = _
        rw [eu, ew]
      dsimp only
      by_cases q : eastB (px, py) u.2 w.2 = true
      · rw [if_pos q]
        rw [q] at es
        have es : cntE (px, py) zs (i + 1) = cntE (px, py) zs i + 1 := es
        exact ⟨1, rfl, ⟨by omega, by omega⟩, ⟨by omega, by omega⟩, s13.trans s15, by rw [ht, es]; rfl⟩
      · rw [if_neg q]
        rw [Bool.not_eq_true] at q
        rw [q] at es
        have es : cntE (px, py) zs (i + 1) = cntE (px, py) zs i + 0 := es
        exact ⟨s13.trans s15, by rw [ht, es]; rfl⟩
    · rintro t H13 ⟨s13, ht⟩
      rw [hQ2]
      have k := k _ (((s110.trans s11).trans s12).trans s13)
      rw [lp] at ht
      unfold placeS at k
      rw [if_neg (by rw [onRing_no hd]; decide)] at k
      have em : Builtin.bitAnd (cntE (px, py) zs zs.length : Int) 1 = ((cntE (px, py) zs zs.length % 2 : Nat) : Int) := by rw [PyProof.Rows.bitAnd_m1]; omega
      subst ht
      refine ⟨_, rfl, _, _, rfl, rfl, _, rfl, ?_⟩
      dsimp only
      rw [em]
      by_cases q : cntE (px, py) zs zs.length % 2 = 1
      · rw [if_pos q] at k
        rw [q]
        exact k
      · rw [if_neg q] at k
        rw [show cntE (px, py) zs zs.length % 2 = 0 by omega]
        exact k
theorem ok_left_turns (T : Txt K mg) (TB : TxtB T base w) : FnOk P w K mg base CX0 2 T.a_left_turns T.d_left_turns ["points"] (fun vs H Q _ => ∃ (l : Addr) (zs : List Zp), vs = [.ref l] ∧ SqL K H l (refs zs) ∧ Pts K H zs ∧ (∀ z ∈ zs, On z.2.1 z.2.2) ∧ zs.length ≤ 100 ∧ ∀ p (ws : List Zp) H', Same H H' → H' p = some (.lst (refs ws)) → (∀ w ∈ ws, w ∈ zs) → crd ws = (chainS (crd zs).reverse).reverse → Q (.ref p) H') := by
  refine T.F_left_turns.ok sc_left_turns (fun vs H Q E h => ?_) (fun cdv A outer s H vs Q E hr h => ?_)
  · obtain ⟨l, zs, rfl, hl, hp, ho, lz, k⟩ := h
    rfl
  · obtain ⟨l, zs, rfl, hl, hp, ho, lz, k⟩ := h
    refine ⟨_, (pss_cons (ps_set (i := 1) sc_left_turns.nd rfl (Or.inl rfl) (pe_lst pa_nil))
      (pss_cons (ps_for PassesOwn.never rfl (pi_list (pv 0)) (pg_name (i := 2) sc_left_turns.nd rfl (Or.inl rfl))
        (pss_cons (ps_while PassesOwn.never (PW.pt (pw_and (pt_cmpR op_ge (pe_callB call_len (by rfl) T.n_len (by decide +kernel) (pa_cons (pv 1) pa_nil)) pe_int (nomark _)) (pw_and1 (pt_cmpR op_le (pe_call (ok_turn_of T TB) (hr.mono (by omega)) rfl T.m_turn_of T.F_turn_of.kp T.b_turn_of .nil pass0 (pa_cons (pe_ix (r := rIxL K) ix_list (pv 1) (pe_un un_neg pe_int) (fun _ _ => rfl)) (pa_cons (pe_ix (r := rIxL K) ix_list (pv 1) (pe_un un_neg pe_int) (fun _ _ => rfl)) (pa_cons (pv 2) pa_nil)))) pe_int (nomark _)))))
          (pss_one (ps_expr (pe_bm0 PySem.F.plainAttrs_list PySem.F.slot_list_pop PySem.F.type_list_pop mt_pop (pv 1)))))
        (pss_one (ps_expr (pe_bm PySem.F.plainAttrs_list PySem.F.slot_list_append PySem.F.type_list_append mt_append (pv 1) (pa_cons (pv 2) pa_nil))))))
      (pss_one (ps_ret (pv 1))))), ?_⟩
    refine ⟨small rfl, fun D hD => ?_⟩
    have hl1 := Same.seq (same_new (o := HO.lst []) hD) hl
    refine ⟨_, rfl, _, rfl, ⟨_, hl1⟩, for_it (walk_list (xs := refs zs)) (fun i σ H' => (∃ o, σ = [some (.ref l), some (.ref D), o]) ∧ Same H H' ∧ ∃ st : List Zp, H' D = some (.lst (refs st.reverse)) ∧ (∀ w ∈ st, w ∈ zs) ∧ st.length ≤ i ∧ crd st = chainS (crd (zs.take i)).reverse) ⟨⟨_, rfl⟩, same_new hD, [], upd_same, (fun w h => by cases h), Nat.le_refl _, rfl⟩ (fun i σ H' _ q => q.2.1.seq hl) ?_ ?_⟩
    · rintro i x σ H1 H2 hi ⟨⟨o, rfl⟩, s1, st, hD1, sub, lst_, ec⟩ ⟨rfl, hx⟩
      rw [List.getElem?_map] at hx
      obtain ⟨z, hz, rfl⟩ := Option.map_eq_some_iff.mp hx
      have mz := List.mem_of_getElem? hz
      have oz := ho z mz
      have hi : i < zs.length := (List.getElem?_eq_some_iff.mp hz).1
      refine ⟨fun m σ' H' => σ' = [some (.ref l), some (.ref D), some (.ref z.1)] ∧ Same H H' ∧ ∃ st' : List Zp, H' D = some (.lst (refs st'.reverse)) ∧ (∀ w ∈ st', w ∈ zs) ∧ popR z.2 (crd st') = popR z.2 (crd st) ∧ st'.length ≤ i ∧ st'.length = m, ⟨st.length, rfl, s1, st, hD1, sub, rfl, lst_, rfl⟩, ?_⟩
      rintro m σ' H' ⟨rfl, s2, st', hD2, sub', epop, lst', rfl⟩
      have done : popR z.2 (crd st') = crd st' → crd (z :: st') = chainS (crd (zs.take (i + 1))).reverse := fun e => by
        rw [List.take_succ, hz, crd_app, List.reverse_append]
        show z.2 :: crd st' = z.2 :: popR z.2 (chainS (crd (zs.take i)).reverse)
        rw [← ec, ← epop, e]
      have app : ∀ H3, Same H' H3 → H3 D = some (.lst (refs st'.reverse)) → popR z.2 (crd st') = crd st' → (∃ o, [some (V.ref l), some (V.ref D), some (V.ref z.1)] = [some (V.ref l), some (V.ref D), o]) ∧ Same H (upd H3 D (.lst (refs st'.reverse ++ [.ref z.1]))) ∧ ∃ st : List Zp, (upd H3 D (.lst (refs st'.reverse ++ [.ref z.1]))) D = some (.lst (refs st.reverse)) ∧ (∀ w ∈ st, w ∈ zs) ∧ st.length ≤ i + 1 ∧ crd st = chainS (crd (zs.take (i + 1))).reverse := fun H3 s3 h3 e => ⟨⟨_, rfl⟩, (s2.trans s3).put hD, z :: st', by rw [upd_same, refs_back], fun w hw => (List.mem_cons.mp hw).elim (fun e => e ▸ mz) (sub' w), by rw [List.length_cons]; omega, done e⟩
      have ln : (refs st'.reverse).length = st'.length := by rw [refs_len, List.length_reverse]
      refine ⟨_, rfl, _, _, rfl, .inl ⟨_, SqL.of hD2, rfl⟩, _, _, rfl, rfl, _, rfl, ifD (fun e => ?_) (fun e => ?_)⟩
      rotate_left
      · have e : ¬ (2 ≤ st'.length) := by rw [ln] at e; omega
        have ep : popR z.2 (crd st') = crd st' := by
          match st', e with
          | [], _ => rfl
          | [_], _ => rfl
          | _ :: _ :: _, e => exact absurd (by simp) e
        exact ⟨_, rfl, tyL hD2, _, rfl, _, _, _, rfl, rfl, hD2, by rw [ln]; exact line_of (by omega), app H' (Same.refl _) hD2 ep⟩
      match st', e, hD2, sub', epop, lst', app, ln with
      | [], e, _, _, _, _, _, _ => exact absurd e (by decide)
      | [_], e, _, _, _, _, _, ln => exact absurd e (by rw [ln]; simp)
      | c :: b :: r, e, hD2, sub', epop, lst', app, ln =>
        have mc := sub' c (by simp)
        have mb := sub' b (by simp)
        have hp2 := hp.same s2
        have ob := ho b mb
        have oc := ho c mc
        refine ⟨_, rfl, _, rfl, _, _, _, _, rfl, rfl, SqL.of hD2, at_back2 c b r, _, rfl, _, rfl, _, _, _, _, rfl, rfl, SqL.of hD2, at_back1 c (b :: r), _, rfl, _, _, _, _, _, _, _, _, _, rfl, hp2 b mb, hp2 c mc, hp2 z mz, ⟨ob.sx, oc.sx, ob.sy, oc.sy⟩, _, _, rfl, rfl, _, rfl, ifD (fun e2 => ?_) (fun e2 => ?_)⟩
        · have e2 : tn b.2 c.2 z.2 ≤ 0 := e2
          have ep : popR z.2 (crd (c :: b :: r)) = popR z.2 (crd (b :: r)) := if_pos e2
          refine ⟨fun σ' H3 => σ' = [some (.ref l), some (.ref D), some (.ref z.1)] ∧ Same H H3 ∧ H3 D = some (.lst (refs (b :: r).reverse)), ?_, ?_⟩
          · rintro σ' H3 ⟨rfl, s3, h3⟩
            exact ⟨(b :: r).length, by simp, rfl, s3, b :: r, h3, fun w hw => sub' w (List.mem_cons_of_mem _ hw), by rw [← ep]; exact epop, by rw [List.length_cons] at lst'; omega, rfl⟩
          · exact ⟨_, rfl, tyL hD2, _, _, _, rfl, rfl, hD2, last_back c (b :: r), rfl, s2.put hD, by rw [upd_same, drop_back]⟩
        · have e2 : ¬ tn b.2 c.2 z.2 ≤ 0 := e2
          have ep : popR z.2 (crd (c :: b :: r)) = crd (c :: b :: r) := if_neg e2
          exact ⟨_, rfl, tyL hD2, _, rfl, _, _, _, rfl, rfl, hD2, by rw [ln]; exact line_of (by omega), app H' (Same.refl _) hD2 ep⟩
    · rintro σ H1 ⟨⟨o, rfl⟩, s1, st, hD1, sub, lst_, ec⟩
      rw [List.take_of_length_le (by rw [refs_len]; exact Nat.le_refl _)] at ec
      refine ⟨_, rfl, k D st.reverse H1 s1 hD1 (fun w h => sub w (List.mem_reverse.mp h)) ?_⟩
      rw [← ec]
      exact List.map_reverse
theorem ok_hull_of (T : Txt K mg) (TB : TxtB T base w) : FnOk P w K mg base CX0 8 T.a_hull_of T.d_hull_of ["points"] (fun vs H Q _ => ∃ (a : Addr) (zs : List Zp), vs = [.ref a] ∧ LnAt K H a zs ∧ 1 ≤ zs.length ∧ zs.length ≤ 60 ∧ Tbs T.ts H ∧ ∀ (c : Addr) (ws : List Zp) H', LnAt K H' c ws → Wrap (crd zs) (crd ws) → Same H H' → Q (.ref c) H') := by
  refine T.F_hull_of.ok sc_hull_of (fun vs H Q E h => ?_) (fun cdv A outer s H vs Q E hr h => ?_)
  · obtain ⟨a, zs, rfl, ha, l1, lm, tb, k⟩ := h
    rfl
  · obtain ⟨a, zs, rfl, ha, l1, lm, tb, k⟩ := h
    refine ⟨_, (pss_cons (ps_expr (pe_call (ok_need T TB) (hr.mono (by omega)) rfl T.m_need T.F_need.kp T.b_need .nil pass0 (pa_cons (pe_call (ok_are_points T TB) (hr.mono (by omega)) rfl T.m_are_points T.F_are_points.kp T.b_are_points .nil pass0 (pa_cons (pv 0) (pa_cons pe_int (pa_cons (pe_gI T.c_MOST_OF_HULL) pa_nil)))) (pa_cons pe_str pa_nil))))
      (pss_cons (ps_set (i := 1) sc_hull_of.nd rfl (Or.inl rfl) (pe_callB (SetP.cr_sortedPK (P := P) (w := w) rfl rfl rfl hr.units) (by rfl) T.n_sorted (by decide +kernel) (pa_cons (pe_callTy (SetP.cr_setPK (P := P) (w := w) rfl rfl rfl hr.units) (by rfl) T.n_set (by decide +kernel) (pa_cons (pv 0) pa_nil)) pa_nil)))
      (pss_cons (ps_if (pt_cmpR op_eq (pe_callB call_len (by rfl) T.n_len (by decide +kernel) (pa_cons (pv 1) pa_nil)) pe_int (nomark _))
        (pss_one (ps_ret (pe_tup (pa_cons (pe_ix (r := rIxL K) ix_list (pv 1) pe_int (fun _ _ => rfl)) pa_nil))))
        pss_nil)
      (pss_cons (ps_set (i := 2) sc_hull_of.nd rfl (Or.inl rfl) (pe_call (ok_left_turns T TB) (hr.mono (by omega)) rfl T.m_left_turns T.F_left_turns.kp T.b_left_turns .nil pass0 (pa_cons (pv 1) pa_nil)))
      (pss_cons (ps_set (i := 3) sc_hull_of.nd rfl (Or.inl rfl) (pe_call (ok_left_turns T TB) (hr.mono (by omega)) rfl T.m_left_turns T.F_left_turns.kp T.b_left_turns .nil pass0 (pa_cons (pe_revL (pv 1)) pa_nil)))
      (pss_one (ps_ret (pe_callTy call_tuple_ofN (by rfl) T.n_tuple (by decide +kernel) (pa_cons (pe_op op_cat (pe_slice sl_list (pv 2) po_none (po_some (pe_un un_neg pe_int))) (pe_slice sl_list (pv 3) po_none (po_some (pe_un un_neg pe_int)))) pa_nil))))))))), ?_⟩
    refine ⟨_, rfl, _, _, _, _, rfl, ha.av (by omega), tb, fun H1 s1 => ⟨_, _, rfl, by rw [decide_eq_true (by omega), decide_eq_true (by omega)]; rfl, ?_⟩⟩
    have ha := ha.same s1
    refine ⟨_, rfl, a, zs, rfl, ha.t, ha.p, by omega, fun p bs hp hb hz => ?_⟩
    have sp := same_new (o := L2.SetTO P w p (bs.map SetP.row2)) hp
    have ha2 := ha.same sp
    have pb : Pts K _ bs := fun b mb => ha2.p b (hb b mb)
    refine ⟨p, bs, rfl, upd_same, pb, fun q cs perm nd few hq => ?_⟩
    obtain ⟨ms, hms⟩ : ∃ ms, cs.mergeSort (fun p q : Pn => decide (p.2.1 < q.2.1 ∨ (p.2.1 = q.2.1 ∧ p.2.2 ≤ q.2.2))) = ms := ⟨_, rfl⟩
    have asc := sorted_asc nd
    have pm := sortP_perm cs
    rw [hms] at asc pm ⊢
    have sub : ∀ z ∈ ms, z ∈ zs := fun z hz' => hb z (perm.mem_iff.mp (pm.mem_iff.mp hz'))
    have iff_ : ∀ x, x ∈ crd ms ↔ x ∈ crd zs := fun x => by
      constructor
      · intro h
        obtain ⟨z, mz, rfl⟩ := List.mem_map.mp h
        exact mem_crd (sub z mz)
      · intro h
        obtain ⟨z, mz, rfl⟩ := List.mem_map.mp h
        obtain ⟨b, mb, eb⟩ := List.mem_map.mp (hz z mz)
        rw [← eb]
        exact mem_crd (pm.mem_iff.mpr (perm.mem_iff.mpr mb))
    have nodup_ := sorted_nodup asc
    have fewm : ms.length < 64 := by rw [pm.length_eq]; exact few
    have sq := same_new (o := HO.lst (ms.map pnV)) hq
    have s13 := (s1.trans sp).trans sq
    have ha3 := ha2.same sq
    have hms0 : (upd (upd H1 p (L2.SetTO P w p (bs.map SetP.row2))) q (.lst (ms.map pnV))) q = some (.lst (refs ms)) := upd_same
    generalize upd (upd H1 p (L2.SetTO P w p (bs.map SetP.row2))) q (.lst (ms.map pnV)) = G at sq s13 ha3 hms0 ⊢
    have hms1 : SqL K G q (refs ms) := SqL.of hms0
    have pms : Pts K G ms := fun z mz => ha3.p z (sub z mz)
    have oms : ∀ z ∈ ms, On z.2.1 z.2.2 := fun z mz => ha3.on z (sub z mz)
    have ne0 : ms ≠ [] := fun e => by
      obtain ⟨z, mz⟩ : ∃ z, z ∈ zs := ⟨_, List.getElem_mem (show 0 < zs.length by omega)⟩
      have := (iff_ z.2).mpr (mem_crd mz)
      rw [e] at this
      cases this
    refine ⟨_, rfl, _, _, rfl, .inl ⟨_, hms1, rfl⟩, rfl, _, rfl, ifD (fun e => ?_) (fun e => ?_)⟩
    · have e : ms.length = 1 := by
        injection e with e
        rw [refs_len] at e
        omega
      obtain ⟨m, rfl⟩ : ∃ m, ms = [m] := by
        match ms, e with
        | [m], _ => exact ⟨m, rfl⟩
      refine ⟨_, rfl, _, _, _, _, rfl, rfl, hms1, at0, small rfl, fun c hc => ?_⟩
      exact k c [m] _ ⟨tHere, fun z mz => tOver hc (pms z mz), oms⟩ ((wrap_one m.2).of nodup_ iff_) (s13.trans (same_new hc))
    have two : 2 ≤ (crd ms).length := by
      have e : ms.length ≠ 1 := fun z => e (by rw [refs_len, z]; rfl)
      rw [List.length_map]
      cases ms with
      | nil => exact absurd rfl ne0
      | cons x r => rw [List.length_cons] at e ⊢; omega
    have WW := (wrap_of asc two).of nodup_ iff_
    clear asc nodup_ iff_ pm perm nd
    refine ⟨_, rfl, _, ms, rfl, hms1, pms, oms, by omega, fun d1_ ws H2 s2 hd1 sub1 e1 => ?_⟩
    have hms2 := Same.seq s2 hms1
    have pms2 : Pts K H2 ms := pms.same s2
    refine ⟨_, rfl, _, _, rfl, hms2, fun r hr => ?_⟩
    have sr := same_new (o := HO.lst (refs ms).reverse) hr
    have er : refs ms.reverse = (refs ms).reverse := List.map_reverse
    refine ⟨_, ms.reverse, rfl, by rw [er]; exact lHere, fun z mz => (pms2.same sr) z (List.mem_reverse.mp mz), fun z mz => oms z (List.mem_reverse.mp mz), by rw [List.length_reverse]; omega, fun d2_ vs H3 s3 hd2 sub2 e2 => ?_⟩
    have hd1 := s3.get (sr.get hd1)
    rw [crd_rev, List.reverse_reverse] at e2
    have pms3 : Pts K H3 ms := (pms2.same sr).same s3
    have s33 := ((s13.trans s2).trans sr).trans s3
    clear hms1 hms2 ha3 pms2 pms
    refine ⟨_, rfl, _, rfl, _, rfl, ?_⟩
    refine ⟨_, _, rfl, SqL.of hd1, fun c1 w1 => ?_⟩
    rw [cut_m1, refs_init]
    have hd2 := rOver (o := HO.lst (refs ws.dropLast)) w1 hd2
    have lw := chain_len e1
    have lv := chain_len e2
    rw [List.length_reverse, List.length_map] at lw
    rw [List.length_map] at lv
    have big : 1000 ≤ sizeLine := by decide
    refine ⟨_, rfl, _, rfl, _, rfl, ?_⟩
    refine ⟨_, _, rfl, SqL.of hd2, fun c2 w2 => ?_⟩
    rw [cut_m1, refs_init]
    have h1 : upd (upd H3 c1 (.lst (refs ws.dropLast))) c2 (.lst (refs vs.dropLast)) c1 = some (.lst (refs ws.dropLast)) := rOver w2 upd_same
    refine ⟨_, _, _, _, rfl, rfl, h1, upd_same, by rw [refs_len, refs_len, List.length_dropLast, List.length_dropLast]; omega, fun r2 wr => ?_⟩
    rw [← refs_app]
    have sE := ((same_new (o := HO.lst (refs ws.dropLast)) w1).trans (same_new (o := HO.lst (refs vs.dropLast)) w2)).trans (same_new (o := HO.lst (refs (ws.dropLast ++ vs.dropLast))) wr)
    refine ⟨_, _, rfl, SqL.of upd_same, fun t o ht ho => ?_⟩
    have mem : ∀ z ∈ ws.dropLast ++ vs.dropLast, z ∈ ms := fun z hz => (List.mem_append.mp hz).elim (fun h => sub1 z ((List.dropLast_sublist _).subset h)) fun h => List.mem_reverse.mp (sub2 z ((List.dropLast_sublist _).subset h))
    refine k t (ws.dropLast ++ vs.dropLast) _ ⟨(TN.here ho).t, fun z hz => ((pms3.same sE).over ht) z (mem z hz), fun z hz => oms z (mem z hz)⟩ ?_ ((s33.trans sE).trans (same_new ht))
    rw [crd_app, crd_init, crd_init, e1, e2]
    exact WW
theorem ok__law_stream (T : Txt K mg) (TB : TxtB T base w) : FnOk P w K mg base CX0 1 T.a__law_stream T.d__law_stream ["script"] (fun vs H Q _ => ∃ (a : Addr) (ns : List Int), vs = [.ref a] ∧ SqL K H a (ns.map V.int) ∧ ∀ H' s b, Same H H' → H s = none → Strm H' s b → Q (.ref s) H') := by
  refine T.F__law_stream.ok sc__law_stream (fun vs H Q E h => ?_) (fun cdv A outer s H vs Q E hr h => ?_)
  · obtain ⟨a, ns, rfl, hS, k⟩ := h
    rfl
  · obtain ⟨a, ns, rfl, hS, k⟩ := h
    refine ⟨_, (pss_one (ps_ret (pe_lst (pa_cons (pe_callTy call_list_of (by rfl) T.n_list (by decide +kernel) (pa_cons (pv 0) pa_nil)) (pa_cons pe_int (pa_cons pe_int pa_nil)))))), ?_⟩
    refine ⟨_, rfl, _, _, rfl, .inl hS, fun b hb => ⟨small rfl, fun s hs => ?_⟩⟩
    have hs' := hs
    have nb : s ≠ b := fun e => by rw [e, upd_same] at hs'; cases hs'
    rw [upd_ne nb] at hs'
    exact k _ s b (same_then (same_new hb) hs) hs' ⟨ns, 0, 0, by rw [upd_ne nb.symm, upd_same], upd_same, by decide, by decide⟩
theorem ok__law_next (T : Txt K mg) (TB : TxtB T base w) : FnOk P w K mg base CX0 1 T.a__law_next T.d__law_next ["stream", "many"] (fun vs H Q _ => ∃ (s : Addr) (m : Int) (b : Addr), vs = [.ref s, .int m] ∧ 0 < m ∧ m < 2 ^ 200 ∧ Strm H s b ∧ ∀ (d : Int) H', 0 ≤ d → d < m → Strm H' s b → But s H H' → Q (.int d) H') := by
  refine T.F__law_next.ok sc__law_next (fun vs H Q E h => ?_) (fun cdv A outer s H vs Q E hr h => ?_)
  · obtain ⟨s, m, b, rfl, m0, m1, S, k⟩ := h
    rfl
  · obtain ⟨s, m, b, rfl, m0, m1, S, k⟩ := h
    refine ⟨_, (C8.pss_cut (ps_if (pt_cmpR op_eq (pe_ix (r := rIxL K) ix_list (pv 0) pe_int (fun _ _ => rfl)) pe_int (nomark _))
        (pss_cons (ps_set (i := 2) sc__law_next.nd rfl (Or.inl rfl) (pe_ix (r := rIxL K) ix_list (pv 0) pe_int (fun _ _ => rfl)))
        (pss_cons (ps_set (i := 3) sc__law_next.nd rfl (Or.inl rfl) (pe_op op_add pe_int (pv 2)))
        (C8.pss_cut (ps_if (pt_cmpR op_lt (pv 2) (pe_callB call_len (by rfl) T.n_len (by decide +kernel) (pa_cons (pe_ix (r := rIxL K) ix_list (pv 0) pe_int (fun _ _ => rfl)) pa_nil)) (nomark _))
          (pss_one (ps_set (i := 3) sc__law_next.nd rfl (Or.inl rfl) (pe_callB call_abs (by rfl) T.n_abs (by decide +kernel) (pa_cons (pe_ix (r := rIxL K) ix_list (pe_ix (r := rIxL K) ix_list (pv 0) pe_int (fun _ _ => rfl)) (pv 2) (fun _ _ => rfl)) pa_nil))))
          pss_nil)
        (C8.pss_cut (ps_if (pt_cmpR op_lt (pv 3) (pe_op op_pow pe_int pe_int) (nomark _))
          (pss_cons (ps_set (i := 3) sc__law_next.nd rfl (Or.inl rfl) (pe_op op_modN (pe_callTy call_int1 (by rfl) T.n_int (by decide +kernel) (pa_cons (pe_op op_add (pe_op op_add (pe_op op_mul (pv 3) pe_int) (pe_op op_mul (pv 2) pe_int)) pe_int) pa_nil)) pe_int))
          (pss_one (ps_set (i := 3) sc__law_next.nd rfl (Or.inl rfl) (pe_op op_add (pe_op op_mul (pe_op op_modN (pe_callTy call_int1 (by rfl) T.n_int (by decide +kernel) (pa_cons (pe_op op_add (pe_op op_mul (pv 3) pe_int) pe_int) pa_nil)) pe_int) pe_int) (pv 3)))))
          pss_nil)
        (pss_cons (ps_asg (pv 3) (pg_sub (pv 0) pe_int set_list))
        (pss_one (ps_asg (pe_op op_add (pv 2) pe_int) (pg_sub (pv 0) pe_int set_list))))))))
        pss_nil)
      (pss_cons (ps_set (i := 4) sc__law_next.nd rfl (Or.inl rfl) (pe_op op_modN (pe_callTy call_int1 (by rfl) T.n_int (by decide +kernel) (pa_cons (pe_ix (r := rIxL K) ix_list (pv 0) pe_int (fun _ _ => rfl)) pa_nil)) (pv 1)))
      (pss_cons (ps_asg (pe_op op_fdivW (pe_ix (r := rIxL K) ix_list (pv 0) pe_int (fun _ _ => rfl)) (pv 1)) (pg_sub (pv 0) pe_int set_list))
      (pss_one (ps_ret (pv 4)))))), ?_⟩
    obtain ⟨ns, c, kk, hb, hs, c0, k0⟩ := S
    have nbs : b ≠ s := Strm.ne hb hs
    refine ⟨fun σ' H' => ∃ (c kk : Int) (o1 o2 : Option V), σ' = [some (.ref s), some (.int m), o1, o2, none] ∧ H' b = some (.lst (ns.map V.int)) ∧ H' s = some (.lst [.ref b, .int c, .int kk]) ∧ 0 ≤ c ∧ 0 ≤ kk ∧ But s H H', ?_, ?_⟩
    rotate_left
    · rintro σ' H1 ⟨c, kk, o1, o2, rfl, hb, hs, c0, k0, hB⟩
      refine ⟨_, rfl, _, _, _, _, rfl, rfl, SqL.of hs, at1, .inl ⟨_, rfl, _, rfl, _, _, rfl, rfl, by omega, ?_⟩⟩
      refine ⟨_, rfl, _, _, _, _, rfl, rfl, SqL.of hs, at1, _, rfl, _, _, rfl, rfl, wide_div (b := 200) m0 (by omega) (by decide) (by decide), _, rfl, _, _, _, 1, rfl, rfl, hs, rfl, ?_⟩
      refine ⟨_, rfl, ?_⟩
      exact k _ _ (fmod_ge m0) (fmod_lt m0) ⟨ns, c / m, kk, by rw [upd_ne nbs]; exact hb, upd_same, div_ge c0 m0, k0⟩ hB.then_at
    refine ⟨_, rfl, _, _, _, _, rfl, rfl, SqL.of hs, at1, rfl, _, rfl, ?_⟩
    refine ifD (fun e => ?_) (fun e => ⟨c, kk, none, none, rfl, hb, hs, c0, k0, But.refl⟩)
    refine ⟨_, rfl, _, _, _, _, rfl, rfl, SqL.of hs, at2, _, rfl, _, _, rfl, rfl, ?_⟩
    -- if k < len(stream[0])
    have mid : ∀ (cell : Int) (t u : TS) (D : Ends) (σ : St) (H1 : Hp), t { D with nx := fun σ' H' => ∃ cell : Int, σ' = [some (.ref s), some (.int m), some (.int kk), some (.int cell), none] ∧ H' = H ∧ 0 ≤ cell } σ H1 → (∀ cell : Int, 0 ≤ cell → u D [some (.ref s), some (.int m), some (.int kk), some (.int cell), none] H) → C8.tCut t u D σ H1 := by
      intro _ t u D σ H1 h1 h2
      exact ⟨_, h1, fun σ' H' ⟨cell, e1, e2, e3⟩ => by rw [e1, e2]; exact h2 cell e3⟩
    refine mid 0 _ _ _ _ _ ?_ fun cell p0 => mid 0 _ _ _ _ _ ?_ fun cell p0 => ?_
    · refine ⟨_, rfl, _, rfl, _, _, _, _, rfl, rfl, SqL.of hs, at0, _, _, rfl, .inl ⟨_, SqL.of hb, rfl⟩, _, _, rfl, rfl, _, rfl, ?_⟩
      refine ifD (fun e => ?_) (fun e => ⟨_, rfl, rfl, by omega⟩)
      have hk : kk.toNat < ns.length := by rw [List.length_map] at e; omega
      refine ⟨_, rfl, _, _, _, _, rfl, rfl, SqL.of hs, at0, _, rfl, _, _, kk, _, rfl, rfl, SqL.of hb, at_of (j := kk.toNat) (v := V.int ns[kk.toNat]) (by omega) (by rw [List.getElem?_map, List.getElem?_eq_getElem hk]; rfl), _, rfl, ?_⟩
      exact ⟨_, rfl, rfl, by split <;> omega⟩
    · refine ⟨_, rfl, _, _, rfl, rfl, ⟨by decide, by decide, by decide⟩, _, _, rfl, rfl, _, rfl, ?_⟩
      refine ifD (fun e => ?_) (fun e => ⟨_, rfl, rfl, p0⟩)
      refine ⟨_, rfl, _, _, rfl, rfl, .inr ⟨by decide, by decide⟩, _, rfl, _, _, rfl, rfl, .inr ⟨by decide, by decide⟩, _, _, rfl, rfl, _, _, rfl, rfl, .inl ⟨_, rfl, _, _, rfl, rfl, show (2147483647 : Int) ≠ 0 by decide, ?_⟩⟩
      have q0 := fmod_ge (a := cell * 48271 + kk * 69621 + 11) (m := 2147483647) (by decide)
      refine ⟨_, rfl, _, _, rfl, rfl, .inr ⟨by decide, by decide⟩, _, _, rfl, rfl, .inl ⟨_, rfl, _, _, rfl, rfl, show (2147483647 : Int) ≠ 0 by decide, _, _, rfl, rfl, .inr ⟨by decide, by decide⟩, _, rfl, _, _, rfl, rfl, ?_⟩⟩
      have q1 := fmod_ge (a := (cell * 48271 + kk * 69621 + 11).fmod 2147483647 * 16807 + 13) (m := 2147483647) (by decide)
      exact ⟨_, rfl, rfl, by omega⟩
    refine ⟨_, rfl, _, rfl, _, _, _, 1, rfl, rfl, hs, rfl, ?_⟩
    refine ⟨_, rfl, _, _, rfl, rfl, _, rfl, _, _, _, 2, rfl, rfl, upd_same, rfl, ?_⟩
    exact ⟨cell, kk + 1, _, _, rfl, by rw [upd_ne nbs, upd_ne nbs]; exact hb, upd_same, p0, by omega, But.at.then_at⟩
theorem ok__law_is_integer (T : Txt K mg) (TB : TxtB T base w) : FnOk P w K mg base CX0 1 T.a__law_is_integer T.d__law_is_integer ["actual"] (fun vs H Q _ => ∃ x n, vs = [x] ∧ Ty K H x n ∧ Q (.bl (n == "int")) H) := by
  refine T.F__law_is_integer.ok sc__law_is_integer (fun vs H Q E h => ?_) (fun cdv A outer s H vs Q E hr h => ?_)
  · obtain ⟨x, n, rfl, hx, k⟩ := h
    rfl
  · obtain ⟨x, n, rfl, hx, k⟩ := h
    refine ⟨_, (pss_one (ps_ret (pe_and (pe_callB call_isi (by rfl) T.n_isinstance (by decide +kernel) (pa_cons (pv 0) (pa_cons (pe_bltn (v := .ty "int") (by rfl) T.n_int (by decide +kernel) rfl) pa_nil))) (pe_one (pe_not (pe_callB call_isi (by rfl) T.n_isinstance (by decide +kernel) (pa_cons (pv 0) (pa_cons (pe_bltn (v := .ty "bool") (by rfl) T.n_bool (by decide +kernel) rfl) pa_nil)))))))), ?_⟩
    refine ⟨_, rfl, ⟨_, _, _, _, _, rfl, .ty _, (hx).x, isaN (Ty.six hx) (by simp [My.six]), ⟨_, rfl, ?_⟩⟩⟩
    cases hx
    all_goals first | (refine ifTr (by decide) ?_) | (refine ifFa (by decide) ?_; exact k)
    · exact ⟨_, rfl, ⟨_, _, _, _, _, rfl, .ty _, ((Ty.bl _)).x, isaN (by simp [My.six]) (by simp [My.six]), ⟨_, rfl, k⟩⟩⟩
    · exact ⟨_, rfl, ⟨_, _, _, _, _, rfl, .ty _, ((Ty.int _)).x, isaN (by simp [My.six]) (by simp [My.six]), ⟨_, rfl, k⟩⟩⟩
theorem ok__law_gcd (T : Txt K mg) (TB : TxtB T base w) : FnOk P w K mg base CX0 1 T.a__law_gcd T.d__law_gcd ["a", "b"] (fun vs H Q _ => ∃ n d : Int, vs = [.int n, .int d] ∧ n.natAbs ≤ 2 ^ 200 ∧ d.natAbs ≤ 2 ^ 200 ∧ Q (.int (Nat.gcd n.natAbs d.natAbs : Nat)) H) := by
  refine T.F__law_gcd.ok sc__law_gcd (fun vs H Q E h => ?_) (fun cdv A outer s H vs Q E hr h => ?_)
  · obtain ⟨n, d, rfl, h1, h2, k⟩ := h
    rfl
  · obtain ⟨n, d, rfl, h1, h2, k⟩ := h
    refine ⟨_, (pss_cons (ps_set (i := 0) sc__law_gcd.nd rfl (Or.inl rfl) (pe_callB call_abs (by rfl) T.n_abs (by decide +kernel) (pa_cons (pv 0) pa_nil)))
      (pss_cons (ps_set (i := 1) sc__law_gcd.nd rfl (Or.inl rfl) (pe_callB call_abs (by rfl) T.n_abs (by decide +kernel) (pa_cons (pv 1) pa_nil)))
      (pss_cons (ps_for PassesOwn.never rfl (pi_range1 rfl T.n_range (pa_cons pe_int pa_nil)) (pg_name (i := 2) sc__law_gcd.nd rfl (Or.inl rfl))
        (pss_cons (ps_if (pt_cmpR op_eq (pv 1) pe_int (nomark _))
          (pss_one ps_break)
          pss_nil)
        (pss_one (ps_par (i := 0) (j := 1) (by rfl) sc__law_gcd.nd rfl rfl (by decide) rfl rfl (pa_cons (pv 1) (pa_cons (pe_op op_modN (pe_callTy call_int1 (by rfl) T.n_int (by decide +kernel) (pa_cons (pv 0) pa_nil)) (pv 1)) pa_nil)) (by rfl)))))
      (pss_one (ps_ret (pv 0)))))), ?_⟩
    refine ⟨_, rfl, _, rfl, ?_⟩
    refine ⟨_, rfl, _, rfl, ?_⟩
    refine ⟨40000, rfl, by decide, by decide, for_range (lo := 0) (n := 40000) (fun i σ H' => H' = H ∧ ∃ (x y : Nat) (v : Option V), σ = [some (.int x), some (.int y), v] ∧ GI n.natAbs d.natAbs (2 ^ 200) i x y) ⟨rfl, n.natAbs, d.natAbs, none, by rw [← abs_nat n, ← abs_nat d]; rfl, GI.start h1 h2⟩ ?_ ?_⟩
    · rintro i σ H' hi ⟨rfl, x, y, v, rfl, g⟩
      refine ⟨_, rfl, rfl, _, rfl, ifD (fun e => ?_) (fun e => ?_)⟩
      · have y0 : y = 0 := by injection e with e; omega
        subst y0
        refine ⟨_, rfl, ?_⟩
        rw [← g.g, Nat.gcd_zero_right] at k
        exact k
      · have y0 : 0 < y := by
          rcases Nat.eq_zero_or_pos y with z | z
          · rw [z] at e; exact absurd rfl e
          · exact z
        refine ⟨_, rfl, _, rfl, .inl ⟨_, rfl, _, rfl, _, _, rfl, rfl, show ((y : Nat) : Int) ≠ 0 by omega, _, _, rfl, ?_⟩⟩
        exact ⟨rfl, y, x % y, _, by rw [← fmod_nat]; rfl, g.step y0⟩
    · rintro σ H' ⟨rfl, x, y, v, rfl, g⟩
      have y0 := g.done (by decide)
      subst y0
      refine ⟨_, rfl, ?_⟩
      rw [← g.g, Nat.gcd_zero_right] at k
      exact k
theorem ok__law_low (T : Txt K mg) (TB : TxtB T base w) : FnOk P w K mg base CX0 2 T.a__law_low T.d__law_low ["n", "d"] (fun vs H Q _ => ∃ n d : Int, vs = [.int n, .int d] ∧ d ≠ 0 ∧ n.natAbs ≤ 2 ^ 200 ∧ d.natAbs ≤ 2 ^ 200 ∧ ∀ p, H p = none → Q (.ref p) (upd H p (.tup [.int (lowN n d), .int (lowD n d)]))) := by
  refine T.F__law_low.ok sc__law_low (fun vs H Q E h => ?_) (fun cdv A outer s H vs Q E hr h => ?_)
  · obtain ⟨n, d, rfl, d0, h1, h2, k⟩ := h
    rfl
  · obtain ⟨n, d, rfl, d0, h1, h2, k⟩ := h
    refine ⟨_, (pss_cons (ps_set (i := 2) sc__law_low.nd rfl (Or.inl rfl) (pe_call (ok__law_gcd T TB) (hr.mono (by omega)) rfl T.m__law_gcd T.F__law_gcd.kp T.b__law_gcd .nil pass0 (pa_cons (pv 0) (pa_cons (pv 1) pa_nil))))
      (C8.pss_cut (ps_if (pt_cmpR op_lt (pv 1) pe_int (nomark _))
        (pss_one (ps_set (i := 2) sc__law_low.nd rfl (Or.inl rfl) (pe_op op_sub pe_int (pv 2))))
        pss_nil)
      (pss_one (ps_ret (pe_tup (pa_cons (pe_op op_fdivV (pv 0) (pv 2)) (pa_cons (pe_op op_fdivV (pv 1) (pv 2)) pa_nil))))))), ?_⟩
    refine ⟨_, rfl, _, rfl, _, _, rfl, h1, h2, ?_⟩
    have hb := Nat.le_trans (sgcd_le (n := n) d0) h2
    refine ⟨fun σ' H' => H' = H ∧ σ' = [some (.int n), some (.int d), some (.int (sgcd n d))], ?_, ?_⟩
    · refine ⟨_, rfl, _, _, rfl, rfl, _, rfl, ifD (fun e => ?_) (fun e => ?_)⟩
      · refine ⟨_, rfl, _, _, rfl, rfl, ?_⟩
        exact ⟨rfl, by rw [sgcd, if_pos e]; rfl⟩
      · exact ⟨rfl, by rw [sgcd, if_neg e]; rfl⟩
    · rintro σ' H' ⟨rfl, rfl⟩
      exact ⟨_, rfl, _, rfl, _, _, rfl, rfl, ⟨sgcd_ne d0, pow200 hb⟩, _, rfl, _, rfl, _, _, rfl, rfl, ⟨sgcd_ne d0, pow200 hb⟩, small rfl, fun p hp => k p hp⟩
theorem ok__law_plus (T : Txt K mg) (TB : TxtB T base w) : FnOk P w K mg base CX0 3 T.a__law_plus T.d__law_plus ["a", "b"] (fun vs H Q _ => ∃ (a b : Addr) (N D m : Int), vs = [.ref a, .ref b] ∧ SqT K H a [.int N, .int D] ∧ SqT K H b [.int m, .int 1] ∧ D ≠ 0 ∧ N.natAbs ≤ 2 ^ 40 ∧ D.natAbs ≤ 2 ^ 40 ∧ m.natAbs ≤ 2 ^ 10 ∧ ∀ p, H p = none → Q (.ref p) (upd H p (.tup [.int (lowN (N * 1 + m * D) (D * 1)), .int (lowD (N * 1 + m * D) (D * 1))]))) := by
  refine T.F__law_plus.ok sc__law_plus (fun vs H Q E h => ?_) (fun cdv A outer s H vs Q E hr h => ?_)
  · obtain ⟨a, b, N, D, m, rfl, ha, hb, d0, n1, n2, n3, k⟩ := h
    rfl
  · obtain ⟨a, b, N, D, m, rfl, ha, hb, d0, n1, n2, n3, k⟩ := h
    refine ⟨_, (pss_one (ps_ret (pe_call (ok__law_low T TB) (hr.mono (by omega)) rfl T.m__law_low T.F__law_low.kp T.b__law_low .nil pass0 (pa_cons (pe_op op_add (pe_op op_mulW (pe_ix (r := rIxT K) ix_tup (pv 0) pe_int (fun _ _ => rfl)) (pe_ix (r := rIxT K) ix_tup (pv 1) pe_int (fun _ _ => rfl))) (pe_op op_mulW (pe_ix (r := rIxT K) ix_tup (pv 1) pe_int (fun _ _ => rfl)) (pe_ix (r := rIxT K) ix_tup (pv 0) pe_int (fun _ _ => rfl)))) (pa_cons (pe_op op_mulW (pe_ix (r := rIxT K) ix_tup (pv 0) pe_int (fun _ _ => rfl)) (pe_ix (r := rIxT K) ix_tup (pv 1) pe_int (fun _ _ => rfl))) pa_nil))))), ?_⟩
    have b1 : (1 : Int).natAbs ≤ 2 ^ 1 := by decide
    have e1 : (N * 1).natAbs ≤ 2 ^ 42 := by omega
    have e2 : (m * D).natAbs ≤ 2 ^ 50 := mul_le n3 n2
    have e3 : (N * 1 + m * D).natAbs ≤ 2 ^ 51 := add_le (pow_up e1) e2
    have e4 : (D * 1).natAbs ≤ 2 ^ 42 := by omega
    exact ⟨_, rfl, _, _, _, _, rfl, rfl, ha, at0, _, rfl, _, _, _, _, rfl, rfl, hb, at1, _, _, rfl, rfl, wide n1 b1, _, rfl, _, _, _, _, rfl, rfl, hb, at0, _, rfl, _, _, _, _, rfl, rfl, ha, at1, _, _, rfl, rfl, wide n3 n2, _, _, rfl, rfl, _, rfl, _, _, _, _, rfl, rfl, ha, at1, _, rfl, _, _, _, _, rfl, rfl, hb, at1, _, _, rfl, rfl, wide n2 b1, _, _, rfl, by omega, pow_up e3, pow_up e4, fun p hp => k p hp⟩
def spEq (K : PySem.W.Frag) (n : Nat) : Sp := fun vs H Q _ => ∃ x y, vs = [x, y] ∧ Dq K H n x y ∧ ∀ H', Same H H' → Q (.bl true) H'
theorem ok__law_equal (T : Txt K mg) (TB : TxtB T base w) : ∀ n : Nat, FnOk P w K mg base CX0 (n + 1) T.a__law_equal T.d__law_equal ["actual", "due"] (spEq K n)
  | 0 => T.F__law_equal.ok sc__law_equal (fun vs H Q E h => by obtain ⟨x, y, rfl, hd, _⟩ := h; cases hd) (fun cdv A outer s H vs Q E hr h => by obtain ⟨x, y, rfl, hd, _⟩ := h; cases hd)
  | n + 1 => by
    have ih : FnOk P w K mg base CX0 (n + 1) T.a__law_equal T.d__law_equal ["actual", "due"] (spEq K n) := ok__law_equal T TB n
    refine T.F__law_equal.ok sc__law_equal (fun vs H Q E h => ?_) (fun cdv A outer s H vs Q E hr h => ?_)
    · obtain ⟨x, y, rfl, _⟩ := h
      rfl
    · obtain ⟨x, y, rfl, hd, k⟩ := h
      refine ⟨_, (pss_cons (ps_if (pt_cmpR op_isN (pv 1) pe_non (nomark _))
        (pss_one (ps_ret (pe_cmpR op_isN (pv 0) pe_non (nomark _))))
        pss_nil)
      (pss_cons (ps_if (pt_val (pe_callB call_isi (by rfl) T.n_isinstance (by decide +kernel) (pa_cons (pv 1) (pa_cons (pe_bltn (v := .ty "bool") (by rfl) T.n_bool (by decide +kernel) rfl) pa_nil))))
        (pss_one (ps_ret (pe_and (pe_callB call_isi (by rfl) T.n_isinstance (by decide +kernel) (pa_cons (pv 0) (pa_cons (pe_bltn (v := .ty "bool") (by rfl) T.n_bool (by decide +kernel) rfl) pa_nil))) (pe_one (pe_cmpR op_eq (pv 0) (pv 1) (nomark _))))))
        pss_nil)
      (pss_cons (ps_if (pt_val (pe_callB call_isi (by rfl) T.n_isinstance (by decide +kernel) (pa_cons (pv 1) (pa_cons (pe_bltn (v := .ty "int") (by rfl) T.n_int (by decide +kernel) rfl) pa_nil))))
        (pss_one (ps_ret (pe_and (pe_call (ok__law_is_integer T TB) (hr.mono (by omega)) rfl T.m__law_is_integer T.F__law_is_integer.kp T.b__law_is_integer .nil pass0 (pa_cons (pv 0) pa_nil)) (pe_one (pe_cmpR op_eq (pv 0) (pv 1) (nomark _))))))
        pss_nil)
      (pss_cons (ps_if (pt_val (pe_callB call_isi (by rfl) T.n_isinstance (by decide +kernel) (pa_cons (pv 1) (pa_cons (pe_bltn (v := .ty "str") (by rfl) T.n_str (by decide +kernel) rfl) pa_nil))))
        (pss_one (ps_ret (pe_and (pe_callB call_isi (by rfl) T.n_isinstance (by decide +kernel) (pa_cons (pv 0) (pa_cons (pe_bltn (v := .ty "str") (by rfl) T.n_str (by decide +kernel) rfl) pa_nil))) (pe_one (pe_cmpR op_eq (pv 0) (pv 1) (nomark _))))))
        pss_nil)
      (pss_cons (ps_if (PW.pt (pw_and (pt_val (pe_callB call_isi (by rfl) T.n_isinstance (by decide +kernel) (pa_cons (pv 1) (pa_cons (pe_bltn (v := .ty "tuple") (by rfl) T.n_tuple (by decide +kernel) rfl) pa_nil)))) (pw_and1 (pt_not (pt_val (pe_callB call_isi (by rfl) T.n_isinstance (by decide +kernel) (pa_cons (pv 0) (pa_cons (pe_bltn (v := .ty "tuple") (by rfl) T.n_tuple (by decide +kernel) rfl) pa_nil))))))))
        (pss_one (ps_ret pe_bl))
        pss_nil)
      (pss_cons (ps_if (PW.pt (pw_and (pt_val (pe_callB call_isi (by rfl) T.n_isinstance (by decide +kernel) (pa_cons (pv 1) (pa_cons (pe_bltn (v := .ty "list") (by rfl) T.n_list (by decide +kernel) rfl) pa_nil)))) (pw_and1 (pt_not (pt_val (pe_callB call_isi (by rfl) T.n_isinstance (by decide +kernel) (pa_cons (pv 0) (pa_cons (pe_bltn (v := .ty "list") (by rfl) T.n_list (by decide +kernel) rfl) pa_nil))))))))
        (pss_one (ps_ret pe_bl))
        pss_nil)
      (pss_cons (ps_if (pt_cmpR op_ne (pe_callB call_len (by rfl) T.n_len (by decide +kernel) (pa_cons (pv 0) pa_nil)) (pe_callB call_len (by rfl) T.n_len (by decide +kernel) (pa_cons (pv 1) pa_nil)) (nomark _))
        (pss_one (ps_ret pe_bl))
        pss_nil)
      (pss_one (ps_ret (pe_callB (cr_all rfl) (by rfl) T.n_all (by decide +kernel) (pa_cons (pe_lc (own := [("at", 2)]) (g := gName 2) (tt := tYes) rfl sc__law_equal.nd (pi_range1 rfl T.n_range (pa_cons (pe_callB call_len (by rfl) T.n_len (by decide +kernel) (pa_cons (pv 1) pa_nil)) pa_nil)) (blkOk_by (own := [("at", 2)]) (N := N__law_equal) (sc := defScope s__law_equal) (by decide +kernel)) (fun _ _ _ _ _ => pg_name (i := 2) sc__law_equal.nd rfl (Or.inl rfl)) (fun _ _ _ _ _ => pts_nil) (fun _ _ _ _ _ => (pe_call ih (hr.mono (by omega)) rfl T.m__law_equal T.F__law_equal.kp T.b__law_equal .nil pass0 (pa_cons (pe_ix (r := rIx K) ix_seq (pv 0) (pv 2) (fun _ _ => rfl)) (pa_cons (pe_ix (r := rIx K) ix_seq (pv 1) (pv 2) (fun _ _ => rfl)) pa_nil))))) pa_nil))))))))))), ?_⟩
      cases hd with
      | non => exact ⟨_, rfl, rfl, _, rfl, ifD (fun _ => ⟨_, rfl, rfl, by rw [decide_eq_true rfl]; exact k _ (Same.refl _)⟩) (fun e => absurd rfl e)⟩
      | bl _ b =>
        refine ⟨_, rfl, rfl, _, rfl, ifD (fun e => by cases e) (fun _ => ?_)⟩
        refine ⟨_, rfl, _, _, _, _, _, rfl, .ty _, (Ty.bl b).x, isaN (by simp [My.six]) (by simp [My.six]), _, rfl, ifTr (by decide) ?_⟩
        refine ⟨_, rfl, _, _, _, _, _, rfl, .ty _, (Ty.bl b).x, isaN (by simp [My.six]) (by simp [My.six]), _, rfl, ifTr (by decide) ?_⟩
        refine ⟨_, rfl, _, rfl, rfl, ?_⟩
        rw [decide_eq_true rfl]; exact k _ (Same.refl _)
      | int _ i =>
        refine ⟨_, rfl, rfl, _, rfl, ifD (fun e => by cases e) (fun _ => ?_)⟩
        refine ⟨_, rfl, _, _, _, _, _, rfl, .ty _, (Ty.int i).x, isaN (by simp [My.six]) (by simp [My.six]), _, rfl, ifFa (by decide) ?_⟩
        refine ⟨_, rfl, _, _, _, _, _, rfl, .ty _, (Ty.int i).x, isaN (by simp [My.six]) (by simp [My.six]), _, rfl, ifTr (by decide) ?_⟩
        refine ⟨_, rfl, _, _, rfl, .int _, _, rfl, ifTr (by decide) ?_⟩
        refine ⟨_, rfl, _, rfl, rfl, ?_⟩
        rw [decide_eq_true rfl]; exact k _ (Same.refl _)
      | str _ x =>
        refine ⟨_, rfl, rfl, _, rfl, ifD (fun e => by cases e) (fun _ => ?_)⟩
        refine ⟨_, rfl, _, _, _, _, _, rfl, .ty _, (Ty.str x).x, isaN (by simp [My.six]) (by simp [My.six]), _, rfl, ifFa (by decide) ?_⟩
        refine ⟨_, rfl, _, _, _, _, _, rfl, .ty _, (Ty.str x).x, isaN (by simp [My.six]) (by simp [My.six]), _, rfl, ifFa (by decide) ?_⟩
        refine ⟨_, rfl, _, _, _, _, _, rfl, .ty _, (Ty.str x).x, isaN (by simp [My.six]) (by simp [My.six]), _, rfl, ifTr (by decide) ?_⟩
        refine ⟨_, rfl, _, _, _, _, _, rfl, .ty _, (Ty.str x).x, isaN (by simp [My.six]) (by simp [My.six]), _, rfl, ifTr (by decide) ?_⟩
        refine ⟨_, rfl, _, rfl, rfl, ?_⟩
        rw [decide_eq_true rfl]; exact k _ (Same.refl _)
      | @lst _ a b xs ys h1 h2 hl hz h =>
        have hu : True := trivial
        (refine ⟨_, rfl, rfl, _, rfl, ifD (fun e => by cases e) (fun _ => ?_)⟩
         refine ⟨_, rfl, _, _, _, _, _, rfl, .ty _, (Ty.lst h2).x, isaN (by simp [My.six]) (by simp [My.six]), _, rfl, ifFa (by decide) ?_⟩
         refine ⟨_, rfl, _, _, _, _, _, rfl, .ty _, (Ty.lst h2).x, isaN (by simp [My.six]) (by simp [My.six]), _, rfl, ifFa (by decide) ?_⟩
         refine ⟨_, rfl, _, _, _, _, _, rfl, .ty _, (Ty.lst h2).x, isaN (by simp [My.six]) (by simp [My.six]), _, rfl, ifFa (by decide) ?_⟩
         refine ⟨_, rfl, _, _, _, _, _, rfl, .ty _, (Ty.lst h2).x, isaN (by simp [My.six]) (by simp [My.six]), _, rfl, ifFa (by decide) (ifFa rfl ?_)⟩
         refine ⟨_, rfl, _, _, _, _, _, rfl, .ty _, (Ty.lst h2).x, isaN (by simp [My.six]) (by simp [My.six]), _, rfl, ifTr (by decide) ⟨_, rfl, _, _, _, _, _, rfl, .ty _, (Ty.lst h1).x, isaN (by simp [My.six]) (by simp [My.six]), _, rfl, ifFa (by decide) ?_⟩⟩
         refine ⟨_, rfl, _, _, rfl, .inl ⟨_, h1, rfl⟩, _, rfl, _, _, rfl, .inl ⟨_, h2, rfl⟩, rfl, _, rfl, ?_⟩
         refine ifND (fun e => absurd (by rw [hl]) e) (fun _ => ?_)
         refine ⟨_, rfl, _, _, rfl, .inl ⟨_, h2, rfl⟩, ys.length, rfl, by omega, by omega, fun D hD => lc_range (lo := 0) (n := ys.length) (fun i H' => Same H H' ∧ H' D = some (.lst ((List.replicate i true).map V.bl))) ⟨same_new hD, upd_same⟩ ?_ ?_⟩
         · rintro i H1 hi ⟨hS, hD1⟩
           have hx := get_at (xs := xs) (i := i) (by omega)
           have hy := get_at (xs := ys) (i := i) (by omega)
           refine ⟨rfl, ?_⟩
           refine ⟨_, rfl, _, rfl, .inl ⟨_, _, _, _, rfl, rfl, hS.seq h1, at_of (Int.zero_add _) hx, ?_⟩⟩
           refine ⟨_, rfl, _, rfl, .inl ⟨_, _, _, _, rfl, rfl, hS.seq h2, at_of (Int.zero_add _) hy, ?_⟩⟩
           refine ⟨_, _, rfl, (h i _ _ hx hy).same hS, fun H2 hS2 => ?_⟩
           refine ⟨_, hS2.get hD1, by rw [List.length_map, List.length_replicate]; exact Nat.lt_of_lt_of_le (Nat.lt_of_lt_of_le hi hz) (by decide), (hS.trans hS2).put hD, ?_⟩
           · rw [upd_same, List.replicate_succ', List.map_append]; rfl
         · rintro H1 ⟨hS, hD1⟩
           refine ⟨_, _, rfl, SqL.of hD1, ?_⟩
           rw [show (List.replicate ys.length true).all id = true from by rw [List.all_eq_true]; intro x hx; rw [List.eq_of_mem_replicate hx]; rfl]
           exact k _ hS)
      | @tup _ a b xs ys h1 h2 hl hz h =>
        have hu : True := trivial
        (refine ⟨_, rfl, rfl, _, rfl, ifD (fun e => by cases e) (fun _ => ?_)⟩
         refine ⟨_, rfl, _, _, _, _, _, rfl, .ty _, (Ty.tup h2).x, isaN (by simp [My.six]) (by simp [My.six]), _, rfl, ifFa (by decide) ?_⟩
         refine ⟨_, rfl, _, _, _, _, _, rfl, .ty _, (Ty.tup h2).x, isaN (by simp [My.six]) (by simp [My.six]), _, rfl, ifFa (by decide) ?_⟩
         refine ⟨_, rfl, _, _, _, _, _, rfl, .ty _, (Ty.tup h2).x, isaN (by simp [My.six]) (by simp [My.six]), _, rfl, ifFa (by decide) ?_⟩
         refine ⟨_, rfl, _, _, _, _, _, rfl, .ty _, (Ty.tup h2).x, isaN (by simp [My.six]) (by simp [My.six]), _, rfl, ifTr (by decide) ⟨_, rfl, _, _, _, _, _, rfl, .ty _, (Ty.tup h1).x, isaN (by simp [My.six]) (by simp [My.six]), _, rfl, ifFa (by decide) ?_⟩⟩
         refine ⟨_, rfl, _, _, _, _, _, rfl, .ty _, (Ty.tup h2).x, isaN (by simp [My.six]) (by simp [My.six]), _, rfl, ifFa (by decide) (ifFa rfl ?_)⟩
         refine ⟨_, rfl, _, _, rfl, .inr ⟨_, h1, rfl⟩, _, rfl, _, _, rfl, .inr ⟨_, h2, rfl⟩, rfl, _, rfl, ?_⟩
         refine ifND (fun e => absurd (by rw [hl]) e) (fun _ => ?_)
         refine ⟨_, rfl, _, _, rfl, .inr ⟨_, h2, rfl⟩, ys.length, rfl, by omega, by omega, fun D hD => lc_range (lo := 0) (n := ys.length) (fun i H' => Same H H' ∧ H' D = some (.lst ((List.replicate i true).map V.bl))) ⟨same_new hD, upd_same⟩ ?_ ?_⟩
         · rintro i H1 hi ⟨hS, hD1⟩
           have hx := get_at (xs := xs) (i := i) (by omega)
           have hy := get_at (xs := ys) (i := i) (by omega)
           refine ⟨rfl, ?_⟩
           refine ⟨_, rfl, _, rfl, .inr (.inl ⟨_, _, _, _, rfl, rfl, tSame hS h1, at_of (Int.zero_add _) hx, ?_⟩)⟩
           refine ⟨_, rfl, _, rfl, .inr (.inl ⟨_, _, _, _, rfl, rfl, tSame hS h2, at_of (Int.zero_add _) hy, ?_⟩)⟩
           refine ⟨_, _, rfl, (h i _ _ hx hy).same hS, fun H2 hS2 => ?_⟩
           refine ⟨_, hS2.get hD1, by rw [List.length_map, List.length_replicate]; exact Nat.lt_of_lt_of_le (Nat.lt_of_lt_of_le hi hz) (by decide), (hS.trans hS2).put hD, ?_⟩
           · rw [upd_same, List.replicate_succ', List.map_append]; rfl
         · rintro H1 ⟨hS, hD1⟩
           refine ⟨_, _, rfl, SqL.of hD1, ?_⟩
           rw [show (List.replicate ys.length true).all id = true from by rw [List.all_eq_true]; intro x hx; rw [List.eq_of_mem_replicate hx]; rfl]
           exact k _ hS)
theorem ok__law_turn (T : Txt K mg) (TB : TxtB T base w) : FnOk P w K mg base CX0 1 T.a__law_turn T.d__law_turn ["a", "b", "c"] (fun vs H Q _ => ∃ (a b c : Addr) (ax ay bx dy cx cy : Int), vs = [.ref a, .ref b, .ref c] ∧ SqT K H a [.int ax, .int ay] ∧ SqT K H b [.int bx, .int dy] ∧ SqT K H c [.int cx, .int cy] ∧ (Sm ax ∧ Sm bx ∧ Sm ay ∧ Sm dy) ∧ Q (.int (turnI ax ay bx dy cx cy)) H) := by
  refine T.F__law_turn.ok sc__law_turn (fun vs H Q E h => ?_) (fun cdv A outer s H vs Q E hr h => ?_)
  · obtain ⟨a, b, c, ax, ay, bx, dy, cx, cy, rfl, ha, hb, hc, ⟨s1, s2, s3, s4⟩, k⟩ := h
    rfl
  · obtain ⟨a, b, c, ax, ay, bx, dy, cx, cy, rfl, ha, hb, hc, ⟨s1, s2, s3, s4⟩, k⟩ := h
    refine ⟨_, (pss_one (ps_ret (pe_op op_sub (pe_op op_mul (pe_op op_sub (pe_ix (r := rIxT K) ix_tup (pv 1) pe_int (fun _ _ => rfl)) (pe_ix (r := rIxT K) ix_tup (pv 0) pe_int (fun _ _ => rfl))) (pe_op op_sub (pe_ix (r := rIxT K) ix_tup (pv 2) pe_int (fun _ _ => rfl)) (pe_ix (r := rIxT K) ix_tup (pv 0) pe_int (fun _ _ => rfl)))) (pe_op op_mul (pe_op op_sub (pe_ix (r := rIxT K) ix_tup (pv 1) pe_int (fun _ _ => rfl)) (pe_ix (r := rIxT K) ix_tup (pv 0) pe_int (fun _ _ => rfl))) (pe_op op_sub (pe_ix (r := rIxT K) ix_tup (pv 2) pe_int (fun _ _ => rfl)) (pe_ix (r := rIxT K) ix_tup (pv 0) pe_int (fun _ _ => rfl))))))), ?_⟩
    unfold Sm at s1 s2 s3 s4
    refine ⟨_, rfl, _, _, _, _, rfl, rfl, hb, at0, _, rfl, _, _, _, _, rfl, rfl, ha, at0, _, _, rfl, rfl, _, rfl, _, _, _, _, rfl, rfl, hc, at1, _, rfl, _, _, _, _, rfl, rfl, ha, at1, _, _, rfl, rfl, _, _, rfl, rfl, .inl ⟨by omega, by omega⟩, ?_⟩
    exact ⟨_, rfl, _, _, _, _, rfl, rfl, hb, at1, _, rfl, _, _, _, _, rfl, rfl, ha, at1, _, _, rfl, rfl, _, rfl, _, _, _, _, rfl, rfl, hc, at0, _, rfl, _, _, _, _, rfl, rfl, ha, at0, _, _, rfl, rfl, _, _, rfl, rfl, .inl ⟨by omega, by omega⟩, _, _, rfl, rfl, k⟩
theorem ok__law_sign (T : Txt K mg) (TB : TxtB T base w) : FnOk P w K mg base CX0 1 T.a__law_sign T.d__law_sign ["n"] (fun vs H Q _ => ∃ n, vs = [.int n] ∧ ∀ i : Int, -1 ≤ i → (i ≤ 1 ∧ i = sgn n) → Q (.int i) H) := by
  refine T.F__law_sign.ok sc__law_sign (fun vs H Q E h => ?_) (fun cdv A outer s H vs Q E hr h => ?_)
  · obtain ⟨n, rfl, k⟩ := h
    rfl
  · obtain ⟨n, rfl, k⟩ := h
    refine ⟨_, (pss_one (ps_ret (pe_op op_sub (pe_callTy call_int1 (by rfl) T.n_int (by decide +kernel) (pa_cons (pe_cmpR op_gt (pv 0) pe_int (nomark _)) pa_nil)) (pe_callTy call_int1 (by rfl) T.n_int (by decide +kernel) (pa_cons (pe_cmpR op_lt (pv 0) pe_int (nomark _)) pa_nil))))), ?_⟩
    refine ⟨_, rfl, _, _, rfl, rfl, .inr ⟨_, rfl, ?_⟩⟩
    exact ⟨_, rfl, _, _, rfl, rfl, .inr ⟨_, rfl, _, _, rfl, rfl, k _ (by split <;> split <;> omega) ⟨by split <;> split <;> omega, rfl⟩⟩⟩
theorem ok__law_between (T : Txt K mg) (TB : TxtB T base w) : FnOk P w K mg base CX0 2 T.a__law_between T.d__law_between ["p", "a", "b"] (fun vs H Q _ => ∃ (p a c : Addr) (px py ax ay bx dy : Int), vs = [.ref p, .ref a, .ref c] ∧ SqT K H p [.int px, .int py] ∧ SqT K H a [.int ax, .int ay] ∧ SqT K H c [.int bx, .int dy] ∧ (Sm ax ∧ Sm bx ∧ Sm ay ∧ Sm dy) ∧ Q (.bl (boxI ax ay bx dy px py)) H) := by
  refine T.F__law_between.ok sc__law_between (fun vs H Q E h => ?_) (fun cdv A outer s H vs Q E hr h => ?_)
  · obtain ⟨p, a, c, px, py, ax, ay, bx, dy, rfl, hp, ha, hc, sm, k⟩ := h
    rfl
  · obtain ⟨p, a, c, px, py, ax, ay, bx, dy, rfl, hp, ha, hc, sm, k⟩ := h
    refine ⟨_, (pss_cons (ps_if (pt_cmpR op_ne (pe_call (ok__law_turn T TB) (hr.mono (by omega)) rfl T.m__law_turn T.F__law_turn.kp T.b__law_turn .nil pass0 (pa_cons (pv 1) (pa_cons (pv 2) (pa_cons (pv 0) pa_nil)))) pe_int (nomark _))
        (pss_one (ps_ret pe_bl))
        pss_nil)
      (pss_one (ps_ret (pe_and (pe_chain op_le op_le (pe_callB (call_min2 rfl) (by rfl) T.n_min (by decide +kernel) (pa_cons (pe_ix (r := rIxT K) ix_tup (pv 1) pe_int (fun _ _ => rfl)) (pa_cons (pe_ix (r := rIxT K) ix_tup (pv 2) pe_int (fun _ _ => rfl)) pa_nil))) (pe_ix (r := rIxT K) ix_tup (pv 0) pe_int (fun _ _ => rfl)) (pe_callB (call_max2 rfl) (by rfl) T.n_max (by decide +kernel) (pa_cons (pe_ix (r := rIxT K) ix_tup (pv 1) pe_int (fun _ _ => rfl)) (pa_cons (pe_ix (r := rIxT K) ix_tup (pv 2) pe_int (fun _ _ => rfl)) pa_nil)))) (pe_one (pe_chain op_le op_le (pe_callB (call_min2 rfl) (by rfl) T.n_min (by decide +kernel) (pa_cons (pe_ix (r := rIxT K) ix_tup (pv 1) pe_int (fun _ _ => rfl)) (pa_cons (pe_ix (r := rIxT K) ix_tup (pv 2) pe_int (fun _ _ => rfl)) pa_nil))) (pe_ix (r := rIxT K) ix_tup (pv 0) pe_int (fun _ _ => rfl)) (pe_callB (call_max2 rfl) (by rfl) T.n_max (by decide +kernel) (pa_cons (pe_ix (r := rIxT K) ix_tup (pv 1) pe_int (fun _ _ => rfl)) (pa_cons (pe_ix (r := rIxT K) ix_tup (pv 2) pe_int (fun _ _ => rfl)) pa_nil))))))))), ?_⟩
    refine ⟨_, rfl, _, rfl, _, rfl, _, _, _, _, _, _, _, _, _, rfl, ha, hc, hp, sm, rfl, _, rfl, ifND (fun e => ?_) (fun e => ?_)⟩
    · have e : turnI ax ay bx dy px py ≠ 0 := fun z => e (by rw [z])
      unfold boxI at k
      rw [decide_eq_false e, Bool.false_and] at k
      exact k
    · have e : turnI ax ay bx dy px py = 0 := by injection e
      unfold boxI at k
      rw [decide_eq_true e, Bool.true_and] at k
      have two : ∀ (x y z : Int) (Q : VK), Q (.bl (decide (x ≤ y) && decide (y ≤ z))) H → (∃ c, V.bl (decide (x ≤ y)) = V.bl c ∧ if c = true then Q (.bl (decide (y ≤ z))) H else Q (.bl false) H) := by
        intro x y z Q k
        refine ⟨_, rfl, ifB (fun q => ?_) (fun q => ?_)⟩
        · rw [q, Bool.true_and] at k; exact k
        · rw [q, Bool.false_and] at k; exact k
      refine ⟨_, rfl, _, _, _, _, rfl, rfl, ha, at0, _, rfl, _, _, _, _, rfl, rfl, hc, at0, _, _, rfl, _, rfl, _, _, _, _, rfl, rfl, hp, at0, _, _, rfl, rfl, _, rfl, ifB (fun q => ?_) (fun q => ?_)⟩
      · refine ⟨_, rfl, _, _, _, _, rfl, rfl, ha, at0, _, rfl, _, _, _, _, rfl, rfl, hc, at0, _, _, rfl, _, _, rfl, rfl, _, rfl, ?_⟩
        rw [q, Bool.true_and] at k
        refine ifB (fun q => ?_) (fun q => ?_)
        · rw [q, Bool.true_and] at k
          refine ⟨_, rfl, _, _, _, _, rfl, rfl, ha, at1, _, rfl, _, _, _, _, rfl, rfl, hc, at1, _, _, rfl, _, rfl, _, _, _, _, rfl, rfl, hp, at1, _, _, rfl, rfl, _, rfl, ifB (fun q => ?_) (fun q => ?_)⟩
          · rw [q, Bool.true_and] at k
            exact ⟨_, rfl, _, _, _, _, rfl, rfl, ha, at1, _, rfl, _, _, _, _, rfl, rfl, hc, at1, _, _, rfl, _, _, rfl, rfl, k⟩
          · rw [q, Bool.false_and] at k
            exact k
        · rw [q, Bool.false_and] at k
          exact k
      · rw [q, Bool.false_and, Bool.false_and] at k
        exact ⟨_, rfl, k⟩
theorem ok__law_point (T : Txt K mg) (TB : TxtB T base w) : FnOk P w K mg base CX0 2 T.a__law_point T.d__law_point ["stream", "far"] (fun vs H Q _ => ∃ (s : Addr) (far : Int) (b : Addr), vs = [.ref s, .int far] ∧ 0 ≤ far ∧ far ≤ 1000000 ∧ Strm H s b ∧ ∀ (a : Addr) (x y : Int) H', In far x y → Strm H' s b → But s H H' → SqT K H' a [.int x, .int y] → Q (.ref a) H') := by
  refine T.F__law_point.ok sc__law_point (fun vs H Q E h => ?_) (fun cdv A outer s H vs Q E hr h => ?_)
  · obtain ⟨s, far, b, rfl, f0, f1, S, k⟩ := h
    rfl
  · obtain ⟨s, far, b, rfl, f0, f1, S, k⟩ := h
    refine ⟨_, (pss_one (ps_ret (pe_tup (pa_cons (pe_op op_sub (pe_call (ok__law_next T TB) (hr.mono (by omega)) rfl T.m__law_next T.F__law_next.kp T.b__law_next .nil pass0 (pa_cons (pv 0) (pa_cons (pe_op op_add (pe_op op_mul pe_int (pv 1)) pe_int) pa_nil))) (pv 1)) (pa_cons (pe_op op_sub (pe_call (ok__law_next T TB) (hr.mono (by omega)) rfl T.m__law_next T.F__law_next.kp T.b__law_next .nil pass0 (pa_cons (pv 0) (pa_cons (pe_op op_add (pe_op op_mul pe_int (pv 1)) pe_int) pa_nil))) (pv 1)) pa_nil))))), ?_⟩
    refine ⟨_, rfl, _, rfl, _, _, rfl, rfl, .inl ⟨by decide, by decide⟩, _, _, rfl, rfl, _, _, _, rfl, by omega, by omega, S, fun d H1 d0 d1 S1 B1 => ?_⟩
    refine ⟨_, rfl, _, _, rfl, rfl, _, rfl, _, rfl, _, _, rfl, rfl, .inl ⟨by decide, by decide⟩, _, _, rfl, rfl, _, _, _, rfl, by omega, by omega, S1, fun e H2 e0 e1 S2 B2 => ?_⟩
    refine ⟨_, rfl, _, _, rfl, rfl, small rfl, fun p hp => ?_⟩
    exact k p (d - far) (e - far) _ ⟨by omega, by omega, by omega, by omega⟩ (S2.over hp) ((B1.trans B2).then_new hp) tHere
theorem ok__law_segment (T : Txt K mg) (TB : TxtB T base w) : FnOk P w K mg base CX0 3 T.a__law_segment T.d__law_segment ["stream", "far"] (fun vs H Q _ => ∃ (s b : Addr) (far : Int), vs = [.ref s, .int far] ∧ Far far ∧ Strm H s b ∧ ∀ (g a c : Addr) (ax ay bx dy : Int) H', Strm H' s b → But s H H' → SegAt K H' g a c ax ay bx dy → In far ax ay → In far bx dy → Q (.ref g) H') := by
  refine T.F__law_segment.ok sc__law_segment (fun vs H Q E h => ?_) (fun cdv A outer s H vs Q E hr h => ?_)
  · obtain ⟨s, b, far, rfl, hf, S, k⟩ := h
    rfl
  · obtain ⟨s, b, far, rfl, hf, S, k⟩ := h
    refine ⟨_, (pss_cons (ps_set (i := 2) sc__law_segment.nd rfl (Or.inl rfl) (pe_call (ok__law_point T TB) (hr.mono (by omega)) rfl T.m__law_point T.F__law_point.kp T.b__law_point .nil pass0 (pa_cons (pv 0) (pa_cons (pv 1) pa_nil))))
      (pss_cons (ps_set (i := 3) sc__law_segment.nd rfl (Or.inl rfl) (pe_call (ok__law_point T TB) (hr.mono (by omega)) rfl T.m__law_point T.F__law_point.kp T.b__law_point .nil pass0 (pa_cons (pv 0) (pa_cons (pv 1) pa_nil))))
      (C8.pss_cut (ps_if (pt_cmpR (op_eqP hr.units) (pv 2) (pv 3) (nomark _))
        (pss_cons (ps_set (i := 3) sc__law_segment.nd rfl (Or.inl rfl) (pe_tup (pa_cons (pe_ix (r := rIxT K) ix_tup (pv 2) pe_int (fun _ _ => rfl)) (pa_cons (pe_op op_sub (pe_ix (r := rIxT K) ix_tup (pv 2) pe_int (fun _ _ => rfl)) pe_int) pa_nil))))
        (pss_one (ps_if (pt_cmpR op_eq (pe_ix (r := rIxT K) ix_tup (pv 2) pe_int (fun _ _ => rfl)) (pe_op op_sub pe_int (pv 1)) (nomark _))
          (pss_one (ps_set (i := 3) sc__law_segment.nd rfl (Or.inl rfl) (pe_tup (pa_cons (pe_ix (r := rIxT K) ix_tup (pv 2) pe_int (fun _ _ => rfl)) (pa_cons (pe_op op_add (pe_ix (r := rIxT K) ix_tup (pv 2) pe_int (fun _ _ => rfl)) pe_int) pa_nil)))))
          pss_nil)))
        pss_nil)
      (pss_one (ps_ret (pe_tup (pa_cons (pe_callB (call_minP rfl hr.units) (by rfl) T.n_min (by decide +kernel) (pa_cons (pv 2) (pa_cons (pv 3) pa_nil))) (pa_cons (pe_callB (call_maxP rfl hr.units) (by rfl) T.n_max (by decide +kernel) (pa_cons (pv 2) (pa_cons (pv 3) pa_nil))) pa_nil)))))))), ?_⟩
    have hf' := hf.le
    refine ⟨_, rfl, _, rfl, _, _, _, rfl, by omega, by omega, S, fun a ax ay H1 ia S1 B1 ha => ?_⟩
    refine ⟨_, rfl, _, rfl, _, _, _, rfl, by omega, by omega, S1, fun c bx dy H2 ic S2 B2 hc => ?_⟩
    have ha := tButS B2 S1 ha
    refine ⟨fun σ' H' => ∃ (c' : Addr) (bx' dy' : Int), σ' = [some (.ref s), some (.int far), some (.ref a), some (.ref c')] ∧ Strm H' s b ∧ But s H H' ∧ SqT K H' a [.int ax, .int ay] ∧ SqT K H' c' [.int bx', .int dy'] ∧ In far bx' dy' ∧ ¬ (ax = bx' ∧ ay = dy'), ?_, ?_⟩
    · refine ⟨_, rfl, _, rfl, _, _, _, _, _, _, rfl, rfl, ha, hc, _, rfl, ifD (fun e => ?_) (fun e => ⟨_, _, _, rfl, S2, B1.trans B2, ha, hc, ic, e⟩)⟩
      refine ⟨_, rfl, _, _, _, _, rfl, rfl, ha, at0, _, rfl, _, _, _, _, rfl, rfl, ha, at1, _, _, rfl, rfl, small rfl, fun q hq => ?_⟩
      have ha1 := tOver (o := HO.tup [.int ax, .int (ay - 1)]) hq ha
      unfold In at ia
      refine ⟨_, rfl, _, _, _, _, rfl, rfl, ha1, at1, _, rfl, _, _, rfl, rfl, rfl, _, rfl, ifD (fun z => ?_) (fun z => ?_)⟩
      · have z : ay = 0 - far := by injection z
        refine ⟨_, rfl, _, _, _, _, rfl, rfl, ha1, at0, _, rfl, _, _, _, _, rfl, rfl, ha1, at1, _, _, rfl, rfl, small rfl, fun r hr => ?_⟩
        exact ⟨r, ax, ay + 1, rfl, (S2.over hq).over hr, ((B1.trans B2).then_new hq).then_new hr, tOver hr ha1, tHere, by unfold In; omega, by omega⟩
      · have z : ay ≠ 0 - far := fun w => z (by rw [w])
        exact ⟨q, ax, ay - 1, rfl, S2.over hq, (B1.trans B2).then_new hq, ha1, tHere, by unfold In; omega, by omega⟩
    · rintro σ' H3 ⟨c, bx, dy, rfl, S3, B3, ha, hc, ic, ne⟩
      have oa := ia.on hf'.2
      have oc := ic.on hf'.2
      refine ⟨_, rfl, _, rfl, _, _, _, _, _, _, rfl, ha, hc, _, rfl, _, rfl, _, _, _, _, _, _, rfl, ha, hc, small rfl, fun g hg => ?_⟩
      by_cases l : ltP bx dy ax ay = true
      · have l2 : ltP ax ay bx dy = false := by
          have := of_decide_eq_true l
          exact decide_eq_false (by omega)
        refine k g _ _ _ _ _ _ _ (S3.over hg) (B3.then_new hg) ⟨?_, tOver hg hc, tOver hg ha, oc, oa, l⟩ ic ia
        have := tHere (K := K) (H := H3) (p := g) (xs := [.ref c, .ref a])
        show SqT K (upd H3 g (.tup [.ref (if ltP bx dy ax ay = true then c else a), .ref (if ltP ax ay bx dy = true then c else a)])) g [.ref c, .ref a]
        rw [if_pos l, l2, if_neg Bool.false_ne_true]
        exact this
      · have l2 : ltP ax ay bx dy = true := decide_eq_true (by
          have : ¬ _ := fun z => l (decide_eq_true z)
          omega)
        refine k g _ _ _ _ _ _ _ (S3.over hg) (B3.then_new hg) ⟨?_, tOver hg ha, tOver hg hc, oa, oc, l2⟩ ia ic
        have := tHere (K := K) (H := H3) (p := g) (xs := [.ref a, .ref c])
        show SqT K (upd H3 g (.tup [.ref (if ltP bx dy ax ay = true then c else a), .ref (if ltP ax ay bx dy = true then c else a)])) g [.ref a, .ref c]
        rw [if_neg l, if_pos l2]
        exact this
theorem ok__law_edges (T : Txt K mg) (TB : TxtB T base w) : FnOk P w K mg base CX0 1 T.a__law_edges T.d__law_edges ["points"] (fun vs H Q _ => ∃ (a : Addr) (zs : List Zp), vs = [.ref a] ∧ SqE K H a (refs zs) ∧ Pts K H zs ∧ (∀ z ∈ zs, On z.2.1 z.2.2) ∧ 3 ≤ zs.length ∧ zs.length ≤ 100 ∧ ∀ (l : Addr) (gs : List Addr) H', Same H H' → SqL K H' l (gs.map V.ref) → gs.length = zs.length → (∀ (i : Nat) g, gs[i]? = some g → ∃ u w, u ∈ zs ∧ w ∈ zs ∧ WayAt K H' g u w (pt zs (i + zs.length - 1)) (pt zs i)) → Q (.ref l) H') := by
  refine T.F__law_edges.ok sc__law_edges (fun vs H Q E h => ?_) (fun cdv A outer s H vs Q E hr h => ?_)
  · obtain ⟨a, zs, rfl, ha, hp, ho, l1, l2, k⟩ := h
    rfl
  · obtain ⟨a, zs, rfl, ha, hp, ho, l1, l2, k⟩ := h
    refine ⟨_, (pss_cons (ps_set (i := 1) sc__law_edges.nd rfl (Or.inl rfl) (pe_lst pa_nil))
      (pss_cons (ps_for PassesOwn.never rfl (pi_range1 rfl T.n_range (pa_cons (pe_callB call_len (by rfl) T.n_len (by decide +kernel) (pa_cons (pv 0) pa_nil)) pa_nil)) (pg_name (i := 2) sc__law_edges.nd rfl (Or.inl rfl))
        (pss_cons (ps_set (i := 3) sc__law_edges.nd rfl (Or.inl rfl) (pe_ix (r := rIx K) ix_seq (pv 0) (pe_op op_sub (pv 2) pe_int) (fun _ _ => rfl)))
        (pss_cons (ps_set (i := 4) sc__law_edges.nd rfl (Or.inl rfl) (pe_ix (r := rIx K) ix_seq (pv 0) (pv 2) (fun _ _ => rfl)))
        (pss_one (ps_expr (pe_bm PySem.F.plainAttrs_list PySem.F.slot_list_append PySem.F.type_list_append mt_append (pv 1) (pa_cons (pe_tup (pa_cons (pe_callB (call_minP rfl hr.units) (by rfl) T.n_min (by decide +kernel) (pa_cons (pv 3) (pa_cons (pv 4) pa_nil))) (pa_cons (pe_callB (call_maxP rfl hr.units) (by rfl) T.n_max (by decide +kernel) (pa_cons (pv 3) (pa_cons (pv 4) pa_nil))) pa_nil))) pa_nil)))))))
      (pss_one (ps_ret (pv 1))))), ?_⟩
    have ln : (refs zs).length = zs.length := List.length_map _
    have pick : ∀ (c : Bool) (x y : Zp), x ∈ zs → y ∈ zs → ∃ z ∈ zs, (if c = true then x.1 else y.1) = z.1 ∧ z.2 = if c = true then x.2 else y.2 := by
      intro c x y hx hy
      cases c
      · exact ⟨y, hy, rfl, rfl⟩
      · exact ⟨x, hx, rfl, rfl⟩
    refine ⟨small rfl, fun D hD => ?_⟩
    have haD := ha.same (same_new (o := HO.lst []) hD)
    refine ⟨_, rfl, _, _, rfl, lenE haD, _, rfl, by omega, by omega, for_range (lo := 0) (n := (refs zs).length) (fun i σ H' => ∃ (gs : List Addr) (o2 o3 o4 : Option V), σ = [some (.ref a), some (.ref D), o2, o3, o4] ∧ Same H H' ∧ H' D = some (.lst (gs.map V.ref)) ∧ gs.length = i ∧ ∀ (i : Nat) g, gs[i]? = some g → ∃ u w, u ∈ zs ∧ w ∈ zs ∧ WayAt K H' g u w (pt zs (i + zs.length - 1)) (pt zs i)) ⟨[], none, none, none, rfl, same_new hD, upd_same, rfl, fun i g h => by cases h⟩ ?_ ?_⟩
    · rintro i σ H1 hi ⟨gs, o2, o3, o4, rfl, s1, hD1, hlen, hg⟩
      have hi : i < zs.length := by omega
      obtain ⟨u, mu, hu, eu⟩ := at_pt (zs := zs) (j := 0 + (i : Int) - 1) (k := i + zs.length - 1) (by omega) (by omega)
      obtain ⟨w, mw, hw, ew⟩ := at_pt (zs := zs) (j := 0 + (i : Int)) (k := i + zs.length) (by omega) (by omega)
      rw [pt_add] at ew
      have ha1 := ha.same s1
      have hp1 := hp.same s1
      refine ⟨_, rfl, _, rfl, _, _, rfl, rfl, ixE ha1 hu ?_⟩
      refine ⟨_, rfl, _, rfl, ixE ha1 hw ?_⟩
      refine ⟨_, rfl, tyL hD1, _, rfl, _, rfl, _, _, _, _, _, _, rfl, hp1 u mu, hp1 w mw, _, rfl, _, rfl, _, _, _, _, _, _, rfl, hp1 u mu, hp1 w mw, small rfl, fun gd hgd => ?_⟩
      obtain ⟨lo, mlo, elo, plo⟩ := pick (ltP w.2.1 w.2.2 u.2.1 u.2.2) w u mw mu
      obtain ⟨hi_, mhi, ehi, phi⟩ := pick (ltP u.2.1 u.2.2 w.2.1 w.2.2) w u mw mu
      rw [elo, ehi]
      have hD2 := rOver (o := HO.tup [.ref lo.1, .ref hi_.1]) hgd hD1
      have s2 := same_new (o := HO.tup [.ref lo.1, .ref hi_.1]) hgd
      refine ⟨_, _, _, rfl, rfl, hD2, by rw [List.length_map]; exact line_of (by omega), gs ++ [gd], _, _, _, rfl, (s1.trans s2).put hD, by rw [upd_same, List.map_append]; rfl, by rw [List.length_append, hlen]; rfl, fun i' g h => ?_⟩
      by_cases q : i' < gs.length
      · rw [List.getElem?_append_left q] at h
        obtain ⟨u', w', m1, m2, h3⟩ := hg i' g h
        exact ⟨u', w', m1, m2, tAt ⟨_, hD2⟩ (tSame s2 h3.t), h3.o⟩
      · rw [List.getElem?_append_right (by omega)] at h
        have e : i' - gs.length = 0 := by have := (List.getElem?_eq_some_iff.mp h).1; simp at this; omega
        rw [e] at h
        cases h
        have e : i' = i := by omega
        subst e
        exact ⟨lo, hi_, mlo, mhi, tAt ⟨_, hD2⟩ tHere, by rw [plo, phi, ← eu, ← ew]; exact mm_ord⟩
    · rintro σ H1 ⟨gs, o2, o3, o4, rfl, s1, hD1, hlen, hg⟩
      exact ⟨_, rfl, k D gs H1 s1 (SqL.of hD1) (by omega) hg⟩
theorem ok__law_size (T : Txt K mg) (TB : TxtB T base w) : FnOk P w K mg base CX0 1 T.a__law_size T.d__law_size ["points"] (fun vs H Q _ => ∃ (a : Addr) (zs : List Zp), vs = [.ref a] ∧ LnAt K H a zs ∧ 1 ≤ zs.length ∧ zs.length ≤ 100 ∧ Q (.int (around zs)) H) := by
  refine T.F__law_size.ok sc__law_size (fun vs H Q E h => ?_) (fun cdv A outer s H vs Q E hr h => ?_)
  · obtain ⟨a, zs, rfl, ha, l1, l2, k⟩ := h
    rfl
  · obtain ⟨a, zs, rfl, ha, l1, l2, k⟩ := h
    refine ⟨_, (pss_cons (ps_set (i := 1) sc__law_size.nd rfl (Or.inl rfl) pe_int)
      (pss_cons (ps_for PassesOwn.never rfl (pi_range1 rfl T.n_range (pa_cons (pe_callB call_len (by rfl) T.n_len (by decide +kernel) (pa_cons (pv 0) pa_nil)) pa_nil)) (pg_name (i := 2) sc__law_size.nd rfl (Or.inl rfl))
        (pss_one (ps_set (i := 1) sc__law_size.nd rfl (Or.inl rfl) (pe_op op_sub (pe_op op_add (pv 1) (pe_op op_mul (pe_ix (r := rIxT K) ix_tup (pe_ix (r := rIxT K) ix_tup (pv 0) (pe_op op_sub (pv 2) pe_int) (fun _ _ => rfl)) pe_int (fun _ _ => rfl)) (pe_ix (r := rIxT K) ix_tup (pe_ix (r := rIxT K) ix_tup (pv 0) (pv 2) (fun _ _ => rfl)) pe_int (fun _ _ => rfl)))) (pe_op op_mul (pe_ix (r := rIxT K) ix_tup (pe_ix (r := rIxT K) ix_tup (pv 0) (pe_op op_sub (pv 2) pe_int) (fun _ _ => rfl)) pe_int (fun _ _ => rfl)) (pe_ix (r := rIxT K) ix_tup (pe_ix (r := rIxT K) ix_tup (pv 0) (pv 2) (fun _ _ => rfl)) pe_int (fun _ _ => rfl)))))))
      (pss_one (ps_ret (pv 1))))), ?_⟩
    obtain ⟨l, hl⟩ : ∃ l, zs.getLast? = some l := ⟨zs.getLast (by intro z; rw [z] at l1; simp at l1), List.getLast?_eq_some_getLast _⟩
    have ml : l ∈ zs := List.mem_of_getLast? hl
    have ln : (refs zs).length = zs.length := List.length_map _
    have ea : around zs = along (l :: zs) := by unfold around; rw [hl]
    
    refine ⟨_, rfl, _, _, rfl, .inr ⟨_, ha.t, rfl⟩, _, rfl, by omega, by omega, for_range (lo := 0) (n := (refs zs).length) (fun i σ H' => H' = H ∧ ∃ (t : Int) (o : Option V), σ = [some (.ref a), some (.int t), o] ∧ t = along ((l :: zs).take (i + 1)) ∧ t.natAbs ≤ i * 2097152) ⟨rfl, 0, none, rfl, rfl, by simp⟩ ?_ ?_⟩
    · rintro i σ H' hi ⟨rfl, t, o, rfl, ht, tl⟩
      have hi : i < zs.length := by omega
      obtain ⟨u, hu⟩ : ∃ u, (l :: zs)[i]? = some u := ⟨_, List.getElem?_eq_getElem (by rw [List.length_cons]; omega)⟩
      obtain ⟨w, hw⟩ : ∃ w, zs[i]? = some w := ⟨_, List.getElem?_eq_getElem hi⟩
      have mu : u ∈ zs := (List.mem_cons.mp (List.mem_of_getElem? hu)).elim (fun e => e ▸ ml) id
      have pu := ha.p u mu
      have pw := ha.p.get hw
      have au := at_prev hl hi hu
      have aw : atI (refs zs) (0 + (i : Int)) = some (.ref w.1) := at_of (Int.zero_add _) (by rw [List.getElem?_map, hw]; rfl)
      have ou := ha.on _ mu
      have ow := ha.on _ (List.mem_of_getElem? hw)
      have hc : (cr u w).natAbs ≤ 2097152 := Nat.le_trans (cr_le ou ow) (by decide)
      unfold On at ou ow
      refine ⟨_, rfl, _, rfl, _, rfl, _, _, rfl, rfl, _, _, _, _, rfl, rfl, ha.t, au, _, _, _, _, rfl, rfl, pu, at0, _, rfl, _, rfl, _, _, _, _, rfl, rfl, ha.t, aw, _, _, _, _, rfl, rfl, pw, at1, _, _, rfl, rfl, .inl ⟨by omega, by omega⟩, _, _, rfl, rfl, _, rfl, _, rfl, _, _, rfl, rfl, _, _, _, _, rfl, rfl, ha.t, au, _, _, _, _, rfl, rfl, pu, at1, _, rfl, _, rfl, _, _, _, _, rfl, rfl, ha.t, aw, _, _, _, _, rfl, rfl, pw, at0, _, _, rfl, rfl, .inl ⟨by omega, by omega⟩, _, _, rfl, rfl, rfl, _, _, rfl, ?_, ?_⟩
      · rw [along_take hu (show (l :: zs)[i + 1]? = some w from hw), ← ht]
        unfold cr
        omega
      · have e : t + u.2.1 * w.2.2 - u.2.2 * w.2.1 = t + cr u w := by unfold cr; omega
        rw [e]
        omega
    · rintro σ H' ⟨rfl, t, o, rfl, ht, tl⟩
      rw [ln, List.take_of_length_le (by rw [List.length_cons]; omega), ← ea] at ht
      rw [← ht] at k
      exact ⟨_, rfl, k⟩
theorem ok__law_meet (T : Txt K mg) (TB : TxtB T base w) : FnOk P w K mg base CX0 3 T.a__law_meet T.d__law_meet ["s", "t"] (fun vs H Q _ => ∃ (g h : Addr) (u w u' w' : Zp), vs = [.ref g, .ref h] ∧ SqT K H g [.ref u.1, .ref w.1] ∧ SqT K H h [.ref u'.1, .ref w'.1] ∧ Pts K H [u, w, u', w'] ∧ (∀ z ∈ [u, w, u', w'], On z.2.1 z.2.2) ∧ ∀ b H', b = metB u.2 w.2 u'.2 w'.2 → Same H H' → Q (.bl b) H') := by
  refine T.F__law_meet.ok sc__law_meet (fun vs H Q E h => ?_) (fun cdv A outer s H vs Q E hr h => ?_)
  · obtain ⟨g, h, u, w, u', w', rfl, hg, hh, hp, ho, k⟩ := h
    rfl
  · obtain ⟨g, h, u, w, u', w', rfl, hg, hh, hp, ho, k⟩ := h
    refine ⟨_, (pss_cons (ps_for PassesOwn.never rfl (pi_list (pe_lst (pa_cons (pe_ix (r := rIxT K) ix_tup (pv 0) pe_int (fun _ _ => rfl)) (pa_cons (pe_ix (r := rIxT K) ix_tup (pv 0) pe_int (fun _ _ => rfl)) pa_nil)))) (pg_name (i := 2) sc__law_meet.nd rfl (Or.inl rfl))
        (pss_one (ps_if (pt_val (pe_call (ok__law_between T TB) (hr.mono (by omega)) rfl T.m__law_between T.F__law_between.kp T.b__law_between .nil pass0 (pa_cons (pv 2) (pa_cons (pe_ix (r := rIxT K) ix_tup (pv 1) pe_int (fun _ _ => rfl)) (pa_cons (pe_ix (r := rIxT K) ix_tup (pv 1) pe_int (fun _ _ => rfl)) pa_nil)))))
          (pss_one (ps_ret pe_bl))
          pss_nil)))
      (pss_cons (ps_for PassesOwn.never rfl (pi_list (pe_lst (pa_cons (pe_ix (r := rIxT K) ix_tup (pv 1) pe_int (fun _ _ => rfl)) (pa_cons (pe_ix (r := rIxT K) ix_tup (pv 1) pe_int (fun _ _ => rfl)) pa_nil)))) (pg_name (i := 2) sc__law_meet.nd rfl (Or.inl rfl))
        (pss_one (ps_if (pt_val (pe_call (ok__law_between T TB) (hr.mono (by omega)) rfl T.m__law_between T.F__law_between.kp T.b__law_between .nil pass0 (pa_cons (pv 2) (pa_cons (pe_ix (r := rIxT K) ix_tup (pv 0) pe_int (fun _ _ => rfl)) (pa_cons (pe_ix (r := rIxT K) ix_tup (pv 0) pe_int (fun _ _ => rfl)) pa_nil)))))
          (pss_one (ps_ret pe_bl))
          pss_nil)))
      (pss_cons (ps_set (i := 3) sc__law_meet.nd rfl (Or.inl rfl) (pe_op op_mul (pe_call (ok__law_sign T TB) (hr.mono (by omega)) rfl T.m__law_sign T.F__law_sign.kp T.b__law_sign .nil pass0 (pa_cons (pe_call (ok__law_turn T TB) (hr.mono (by omega)) rfl T.m__law_turn T.F__law_turn.kp T.b__law_turn .nil pass0 (pa_cons (pe_ix (r := rIxT K) ix_tup (pv 0) pe_int (fun _ _ => rfl)) (pa_cons (pe_ix (r := rIxT K) ix_tup (pv 0) pe_int (fun _ _ => rfl)) (pa_cons (pe_ix (r := rIxT K) ix_tup (pv 1) pe_int (fun _ _ => rfl)) pa_nil)))) pa_nil)) (pe_call (ok__law_sign T TB) (hr.mono (by omega)) rfl T.m__law_sign T.F__law_sign.kp T.b__law_sign .nil pass0 (pa_cons (pe_call (ok__law_turn T TB) (hr.mono (by omega)) rfl T.m__law_turn T.F__law_turn.kp T.b__law_turn .nil pass0 (pa_cons (pe_ix (r := rIxT K) ix_tup (pv 0) pe_int (fun _ _ => rfl)) (pa_cons (pe_ix (r := rIxT K) ix_tup (pv 0) pe_int (fun _ _ => rfl)) (pa_cons (pe_ix (r := rIxT K) ix_tup (pv 1) pe_int (fun _ _ => rfl)) pa_nil)))) pa_nil))))
      (pss_cons (ps_set (i := 4) sc__law_meet.nd rfl (Or.inl rfl) (pe_op op_mul (pe_call (ok__law_sign T TB) (hr.mono (by omega)) rfl T.m__law_sign T.F__law_sign.kp T.b__law_sign .nil pass0 (pa_cons (pe_call (ok__law_turn T TB) (hr.mono (by omega)) rfl T.m__law_turn T.F__law_turn.kp T.b__law_turn .nil pass0 (pa_cons (pe_ix (r := rIxT K) ix_tup (pv 1) pe_int (fun _ _ => rfl)) (pa_cons (pe_ix (r := rIxT K) ix_tup (pv 1) pe_int (fun _ _ => rfl)) (pa_cons (pe_ix (r := rIxT K) ix_tup (pv 0) pe_int (fun _ _ => rfl)) pa_nil)))) pa_nil)) (pe_call (ok__law_sign T TB) (hr.mono (by omega)) rfl T.m__law_sign T.F__law_sign.kp T.b__law_sign .nil pass0 (pa_cons (pe_call (ok__law_turn T TB) (hr.mono (by omega)) rfl T.m__law_turn T.F__law_turn.kp T.b__law_turn .nil pass0 (pa_cons (pe_ix (r := rIxT K) ix_tup (pv 1) pe_int (fun _ _ => rfl)) (pa_cons (pe_ix (r := rIxT K) ix_tup (pv 1) pe_int (fun _ _ => rfl)) (pa_cons (pe_ix (r := rIxT K) ix_tup (pv 0) pe_int (fun _ _ => rfl)) pa_nil)))) pa_nil))))
      (pss_one (ps_ret (pe_and (pe_cmpR op_lt (pv 3) pe_int (nomark _)) (pe_one (pe_cmpR op_lt (pv 4) pe_int (nomark _)))))))))), ?_⟩
    have s0 := Same.refl H
    refine ⟨_, rfl, _, _, _, _, rfl, rfl, hg, at0, _, rfl, _, _, _, _, rfl, rfl, hg, at1, small rfl, fun L1 nL1 => ?_⟩
    have eL1 := same_new (o := HO.lst [.ref u.1, .ref w.1]) nL1
    have sL1 : Same H (upd H L1 (.lst [.ref u.1, .ref w.1])) := s0.trans eL1
    have hL1 : SqL K (upd H L1 (.lst [.ref u.1, .ref w.1])) L1 [.ref u.1, .ref w.1] := lHere
    generalize upd H L1 (.lst [.ref u.1, .ref w.1]) = GL1 at eL1 sL1 hL1 ⊢
    refine ⟨_, rfl, ⟨_, hL1⟩, for_it (walk_list (xs := [V.ref u.1, V.ref w.1])) (fun i σ H' => (∃ o, σ = [some (.ref g), some (.ref h), o, none, none]) ∧ Same GL1 H' ∧ ∀ (j : Nat) z, j < i → [u, w][j]? = some z → box z.2 u'.2 w'.2 = false) ⟨⟨_, rfl⟩, Same.refl _, fun j z h => absurd h (Nat.not_lt_zero _)⟩ (fun i σ H' _ q => q.2.1.seq hL1) ?_ ?_⟩
    · rintro i x σ H1 H2 hi ⟨⟨o, rfl⟩, s1, hb⟩ ⟨rfl, hx⟩
      obtain ⟨z, mz, rfl, hz⟩ : ∃ z ∈ [u, w, u', w'], x = V.ref z.1 ∧ [u, w][i]? = some z := by
        match i, hi, hx with
        | 0, _, hx => cases hx; exact ⟨u, by simp, rfl, rfl⟩
        | 1, _, hx => cases hx; exact ⟨w, by simp, rfl, rfl⟩
      have sx := sL1.trans s1
      have hg := tSame sx hg
      have hh := tSame sx hh
      have hp := hp.same sx
      refine ⟨_, rfl, _, rfl, _, _, _, _, rfl, rfl, hh, at0, _, rfl, _, _, _, _, rfl, rfl, hh, at1, _, _, _, _, _, _, _, _, _, rfl, (hp z mz), (hp u' (by simp)), (hp w' (by simp)), ⟨(ho u' (by simp)).sx, (ho w' (by simp)).sx, (ho u' (by simp)).sy, (ho w' (by simp)).sy⟩, _, rfl, ifB (fun e => k _ _ (metB_1 hz e).symm sx) (fun e => ⟨⟨_, rfl⟩, s1, fun j z' hj h => ?_⟩)⟩
      by_cases q : j = i
      · subst q
        rw [hz] at h
        cases h
        exact e
      · exact hb j z' (by omega) h
    rintro σ H3 ⟨⟨o1, rfl⟩, t1, b1⟩
    have s3 := sL1.trans t1
    
    have hg3 := tSame s3 hg
    have hh3 := tSame s3 hh
    
    refine ⟨_, rfl, _, _, _, _, rfl, rfl, hh3, at0, _, rfl, _, _, _, _, rfl, rfl, hh3, at1, small rfl, fun L2 nL2 => ?_⟩
    have eL2 := same_new (o := HO.lst [.ref u'.1, .ref w'.1]) nL2
    have sL2 : Same H (upd H3 L2 (.lst [.ref u'.1, .ref w'.1])) := s3.trans eL2
    have hL2 : SqL K (upd H3 L2 (.lst [.ref u'.1, .ref w'.1])) L2 [.ref u'.1, .ref w'.1] := lHere
    generalize upd H3 L2 (.lst [.ref u'.1, .ref w'.1]) = GL2 at eL2 sL2 hL2 ⊢
    refine ⟨_, rfl, ⟨_, hL2⟩, for_it (walk_list (xs := [V.ref u'.1, V.ref w'.1])) (fun i σ H' => (∃ o, σ = [some (.ref g), some (.ref h), o, none, none]) ∧ Same GL2 H' ∧ ∀ (j : Nat) z, j < i → [u', w'][j]? = some z → box z.2 u.2 w.2 = false) ⟨⟨_, rfl⟩, Same.refl _, fun j z h => absurd h (Nat.not_lt_zero _)⟩ (fun i σ H' _ q => q.2.1.seq hL2) ?_ ?_⟩
    · rintro i x σ H1 H2 hi ⟨⟨o, rfl⟩, s1, hb⟩ ⟨rfl, hx⟩
      obtain ⟨z, mz, rfl, hz⟩ : ∃ z ∈ [u, w, u', w'], x = V.ref z.1 ∧ [u', w'][i]? = some z := by
        match i, hi, hx with
        | 0, _, hx => cases hx; exact ⟨u', by simp, rfl, rfl⟩
        | 1, _, hx => cases hx; exact ⟨w', by simp, rfl, rfl⟩
      have sx := sL2.trans s1
      have hg := tSame sx hg
      have hp := hp.same sx
      refine ⟨_, rfl, _, rfl, _, _, _, _, rfl, rfl, hg, at0, _, rfl, _, _, _, _, rfl, rfl, hg, at1, _, _, _, _, _, _, _, _, _, rfl, (hp z mz), (hp u (by simp)), (hp w (by simp)), ⟨(ho u (by simp)).sx, (ho w (by simp)).sx, (ho u (by simp)).sy, (ho w (by simp)).sy⟩, _, rfl, ifB (fun e => k _ _ (metB_2 hz e).symm sx) (fun e => ⟨⟨_, rfl⟩, s1, fun j z' hj h => ?_⟩)⟩
      by_cases q : j = i
      · subst q
        rw [hz] at h
        cases h
        exact e
      · exact hb j z' (by omega) h
    rintro σ H4 ⟨⟨o2, rfl⟩, t2, b2⟩
    have s4 := sL2.trans t2
    
    clear hg3 hh3
    have hg := tSame s4 hg
    have hh := tSame s4 hh
    have hp := hp.same s4
    have M := metB_3 b1 b2
    refine ⟨_, rfl, _, _, _, _, rfl, rfl, hg, at0, _, rfl, _, _, _, _, rfl, rfl, hg, at1, _, rfl, _, _, _, _, rfl, rfl, hh, at0, _, _, _, _, _, _, _, _, _, rfl, (hp u (by simp)), (hp w (by simp)), (hp u' (by simp)), ⟨(ho u (by simp)).sx, (ho w (by simp)).sx, (ho u (by simp)).sy, (ho w (by simp)).sy⟩, _, rfl, fun i1 a1 b1 => ⟨_, rfl, _, _, _, _, rfl, rfl, hg, at0, _, rfl, _, _, _, _, rfl, rfl, hg, at1, _, rfl, _, _, _, _, rfl, rfl, hh, at1, _, _, _, _, _, _, _, _, _, rfl, (hp u (by simp)), (hp w (by simp)), (hp w' (by simp)), ⟨(ho u (by simp)).sx, (ho w (by simp)).sx, (ho u (by simp)).sy, (ho w (by simp)).sy⟩, _, rfl, fun i2 a2 b2 => ⟨_, _, rfl, rfl, .inl ⟨by omega, by omega⟩, ?_⟩⟩⟩
    refine ⟨_, rfl, _, _, _, _, rfl, rfl, hh, at0, _, rfl, _, _, _, _, rfl, rfl, hh, at1, _, rfl, _, _, _, _, rfl, rfl, hg, at0, _, _, _, _, _, _, _, _, _, rfl, (hp u' (by simp)), (hp w' (by simp)), (hp u (by simp)), ⟨(ho u' (by simp)).sx, (ho w' (by simp)).sx, (ho u' (by simp)).sy, (ho w' (by simp)).sy⟩, _, rfl, fun i3 a3 b3 => ⟨_, rfl, _, _, _, _, rfl, rfl, hh, at0, _, rfl, _, _, _, _, rfl, rfl, hh, at1, _, rfl, _, _, _, _, rfl, rfl, hg, at1, _, _, _, _, _, _, _, _, _, rfl, (hp u' (by simp)), (hp w' (by simp)), (hp w (by simp)), ⟨(ho u' (by simp)).sx, (ho w' (by simp)).sx, (ho u' (by simp)).sy, (ho w' (by simp)).sy⟩, _, rfl, fun i4 a4 b4 => ⟨_, _, rfl, rfl, .inl ⟨by omega, by omega⟩, ?_⟩⟩⟩
    have M : metB u.2 w.2 u'.2 w'.2 = (decide (i1 * i2 < 0) && decide (i3 * i4 < 0)) := by rw [b1.2, b2.2, b3.2, b4.2]; exact M
    rw [M] at k
    refine ⟨_, rfl, _, _, rfl, rfl, _, rfl, ifB (fun e => ⟨_, rfl, _, _, rfl, rfl, k _ _ (by rw [e]; rfl) s4⟩) (fun e => k _ _ (by rw [e]; rfl) s4)⟩
theorem ok__law_is_simple (T : Txt K mg) (TB : TxtB T base w) : FnOk P w K mg base CX0 4 T.a__law_is_simple T.d__law_is_simple ["points"] (fun vs H Q _ => ∃ (a : Addr) (zs : List Zp), vs = [.ref a] ∧ SqE K H a (refs zs) ∧ Pts K H zs ∧ (∀ z ∈ zs, On z.2.1 z.2.2) ∧ 3 ≤ zs.length ∧ zs.length ≤ 100 ∧ ∀ b H', (b = true ↔ Simp zs) → Same H H' → Q (.bl b) H') := by
  refine T.F__law_is_simple.ok sc__law_is_simple (fun vs H Q E h => ?_) (fun cdv A outer s H vs Q E hr h => ?_)
  · obtain ⟨a, zs, rfl, ha, hp, ho, l1, l2, k⟩ := h
    rfl
  · obtain ⟨a, zs, rfl, ha, hp, ho, l1, l2, k⟩ := h
    refine ⟨_, (pss_cons (ps_set (i := 1) sc__law_is_simple.nd rfl (Or.inl rfl) (pe_callB call_len (by rfl) T.n_len (by decide +kernel) (pa_cons (pv 0) pa_nil)))
      (pss_cons (ps_for PassesOwn.never rfl (pi_range1 rfl T.n_range (pa_cons (pv 1) pa_nil)) (pg_name (i := 2) sc__law_is_simple.nd rfl (Or.inl rfl))
        (pss_cons (ps_set (i := 3) sc__law_is_simple.nd rfl (Or.inl rfl) (pe_ix (r := rIx K) ix_seq (pv 0) (pe_op op_sub (pv 2) pe_int) (fun _ _ => rfl)))
        (pss_cons (ps_set (i := 4) sc__law_is_simple.nd rfl (Or.inl rfl) (pe_ix (r := rIx K) ix_seq (pv 0) (pe_op op_sub (pv 2) pe_int) (fun _ _ => rfl)))
        (pss_cons (ps_set (i := 5) sc__law_is_simple.nd rfl (Or.inl rfl) (pe_ix (r := rIx K) ix_seq (pv 0) (pv 2) (fun _ _ => rfl)))
        (pss_cons (ps_if (PW.pt (pw_or (pt_cmpR (op_eqP hr.units) (pv 3) (pv 4) (nomark _)) (pw_or (pt_cmpR (op_eqP hr.units) (pv 4) (pv 5) (nomark _)) (pw_or1 (pt_cmpR (op_eqP hr.units) (pv 3) (pv 5) (nomark _))))))
          (pss_one (ps_ret pe_bl))
          pss_nil)
        (pss_one (ps_if (PW.pt (pw_or (pt_val (pe_call (ok__law_between T TB) (hr.mono (by omega)) rfl T.m__law_between T.F__law_between.kp T.b__law_between .nil pass0 (pa_cons (pv 3) (pa_cons (pv 4) (pa_cons (pv 5) pa_nil))))) (pw_or1 (pt_val (pe_call (ok__law_between T TB) (hr.mono (by omega)) rfl T.m__law_between T.F__law_between.kp T.b__law_between .nil pass0 (pa_cons (pv 5) (pa_cons (pv 3) (pa_cons (pv 4) pa_nil))))))))
          (pss_one (ps_ret pe_bl))
          pss_nil)))))))
      (pss_cons (ps_set (i := 6) sc__law_is_simple.nd rfl (Or.inl rfl) (pe_call (ok__law_edges T TB) (hr.mono (by omega)) rfl T.m__law_edges T.F__law_edges.kp T.b__law_edges .nil pass0 (pa_cons (pv 0) pa_nil)))
      (pss_cons (ps_for PassesOwn.never rfl (pi_range1 rfl T.n_range (pa_cons (pv 1) pa_nil)) (pg_name (i := 2) sc__law_is_simple.nd rfl (Or.inl rfl))
        (pss_one (ps_for PassesOwn.never rfl (pi_range1 rfl T.n_range (pa_cons (pv 2) pa_nil)) (pg_name (i := 7) sc__law_is_simple.nd rfl (Or.inl rfl))
          (pss_one (ps_if (PW.pt (pw_and (pt_cmpR op_gt (pe_op op_sub (pv 2) (pv 7)) pe_int (nomark _)) (pw_and (pt_cmpR op_lt (pe_op op_sub (pv 2) (pv 7)) (pe_op op_sub (pv 1) pe_int) (nomark _)) (pw_and1 (pt_val (pe_call (ok__law_meet T TB) (hr.mono (by omega)) rfl T.m__law_meet T.F__law_meet.kp T.b__law_meet .nil pass0 (pa_cons (pe_ix (r := rIxL K) ix_list (pv 6) (pv 2) (fun _ _ => rfl)) (pa_cons (pe_ix (r := rIxL K) ix_list (pv 6) (pv 7) (fun _ _ => rfl)) pa_nil))))))))
            (pss_one (ps_ret pe_bl))
            pss_nil)))))
      (pss_one (ps_ret pe_bl)))))), ?_⟩
    have ln : (refs zs).length = zs.length := List.length_map _
    have L := lookL_iff l1
    have no : ∀ H', Same H H' → ¬ Simp zs → Q (.bl false) H' := fun H' s h => k false H' ⟨(fun z => by cases z), fun z => absurd z h⟩ s
    refine ⟨_, rfl, _, _, rfl, lenE ha, ?_⟩
    refine ⟨_, rfl, _, rfl, by omega, by omega, for_range (lo := 0) (n := (refs zs).length) (fun i σ H' => H' = H ∧ (∃ (o2 o3 o4 o5 : Option V), σ = [some (.ref a), some (.int (refs zs).length), o2, o3, o4, o5, none, none]) ∧ ∀ i', i' < i → LookA zs i') ⟨rfl, ⟨none, none, none, none, rfl⟩, fun j h => absurd h (Nat.not_lt_zero _)⟩ ?_ ?_⟩
    · rintro i σ H1 hi ⟨rfl, ⟨o2, o3, o4, o5, rfl⟩, hA⟩
      have hi : i < zs.length := by omega
      obtain ⟨u, mu, hu, eu⟩ := at_pt (zs := zs) (j := 0 + (i : Int) - 2) (k := i + zs.length - 2) (by omega) (by omega)
      obtain ⟨w, mw, hw, ew⟩ := at_pt (zs := zs) (j := 0 + (i : Int) - 1) (k := i + zs.length - 1) (by omega) (by omega)
      obtain ⟨z, mz, hz, ez⟩ := at_pt (zs := zs) (j := 0 + (i : Int)) (k := i + zs.length) (by omega) (by omega)
      refine ⟨_, rfl, _, rfl, _, _, rfl, rfl, ixE ha hu ?_⟩
      refine ⟨_, rfl, _, rfl, _, _, rfl, rfl, ixE ha hw ?_⟩
      refine ⟨_, rfl, _, rfl, ixE ha hz ?_⟩
      have pu := hp u mu
      have pw := hp w mw
      have pz := hp z mz
      have ou := ho u mu
      have ow := ho w mw
      have oz := ho z mz
      have s0 := Same.refl H1
      have bad : ¬ (u.2 ≠ w.2 ∧ Adj u.2 w.2 z.2) → Q (.bl false) H1 := fun h => no _ s0 fun S => h (by
        have := (L.mpr S).1 i hi
        unfold LookA at this
        rw [← eu, ← ew, ← ez] at this
        exact this)
      refine ⟨_, rfl, _, rfl, _, _, _, _, _, _, rfl, rfl, pu, pw, _, rfl, ifD (fun e => bad fun h => h.1 (pt_eq e.1 e.2)) (fun n1 => ?_)⟩
      have n1 : u.2 ≠ w.2 := fun e => n1 (by rw [e]; exact ⟨rfl, rfl⟩)
      refine ⟨_, rfl, _, rfl, _, _, _, _, _, _, rfl, rfl, pw, pz, _, rfl, ifD (fun e => bad fun h => absurd h.2.2 (by rw [← (show w.2 = z.2 from pt_eq e.1 e.2), box_r h.1]; decide)) (fun n2 => ?_)⟩
      refine ⟨_, rfl, _, rfl, _, _, _, _, _, _, rfl, rfl, pu, pz, _, rfl, ifD (fun e => bad fun h => absurd h.2.1 (by rw [← (show u.2 = z.2 from pt_eq e.1 e.2), box_r (Ne.symm h.1)]; decide)) (fun n3 => ?_)⟩
      refine ⟨_, rfl, _, rfl, _, rfl, _, _, _, _, _, _, _, _, _, rfl, pu, pw, pz, ⟨ow.sx, oz.sx, ow.sy, oz.sy⟩, _, rfl, ifB (fun e => bad fun h => by
        have e : box u.2 w.2 z.2 = true := e
        rw [h.2.1] at e
        cases e) (fun e1 => ?_)⟩
      refine ⟨_, rfl, _, rfl, _, rfl, _, _, _, _, _, _, _, _, _, rfl, pz, pu, pw, ⟨ou.sx, ow.sx, ou.sy, ow.sy⟩, _, rfl, ifB (fun e => bad fun h => by
        have e : box z.2 u.2 w.2 = true := e
        rw [h.2.2] at e
        cases e) (fun e2 => ?_)⟩
      refine ⟨rfl, ⟨_, _, _, _, rfl⟩, fun i' hi' => ?_⟩
      by_cases e : i' = i
      · subst e
        unfold LookA
        rw [← eu, ← ew, ← ez]
        exact ⟨n1, e1, e2⟩
      · exact hA i' (by omega)
    rintro σ H1 ⟨rfl, ⟨o2, o3, o4, o5, rfl⟩, hA⟩
    rw [ln] at hA
    refine ⟨_, rfl, _, _, rfl, ha, hp, ho, l1, l2, fun l gs H2 s2 hl hlen hg => ?_⟩
    refine ⟨_, rfl, _, rfl, by omega, by omega, for_range (lo := 0) (n := (refs zs).length) (fun i σ H' => Same H2 H' ∧ (∃ (o2 o7 : Option V), σ = [some (.ref a), some (.int (refs zs).length), o2, o3, o4, o5, some (.ref l), o7]) ∧ ∀ i', i' < i → ∀ j, j < i' → LookB zs i' j) ⟨Same.refl _, ⟨_, none, rfl⟩, fun j h => absurd h (Nat.not_lt_zero _)⟩ ?_ ?_⟩
    rotate_left
    · rintro σ H3 ⟨s3, ⟨o2', o7, rfl⟩, hB⟩
      rw [ln] at hB
      exact k true _ ⟨fun _ => L.mp ⟨hA, hB⟩, fun _ => rfl⟩ (s2.trans s3)
    rintro i σ H3 hi ⟨s3, ⟨o2', o7, rfl⟩, hB⟩
    have hi : i < zs.length := by omega
    refine ⟨_, rfl, _, rfl, by omega, by omega, for_range (lo := 0) (n := (0 + (i : Int)).toNat) (fun j σ H' => Same H2 H' ∧ (∃ (o7 : Option V), σ = [some (.ref a), some (.int (refs zs).length), some (.int (0 + (i : Int))), o3, o4, o5, some (.ref l), o7]) ∧ ∀ j', j' < j → LookB zs i j') ⟨s3, ⟨_, rfl⟩, fun j h => absurd h (Nat.not_lt_zero _)⟩ ?_ ?_⟩
    rotate_left
    · rintro σ H4 ⟨s4, ⟨o7', rfl⟩, hj⟩
      refine ⟨s4, ⟨_, _, rfl⟩, fun i' hi' j hj' => ?_⟩
      by_cases e : i' = i
      · subst e
        exact hj j (by omega)
      · exact hB i' (by omega) j hj'
    rintro j σ H4 hj ⟨s4, ⟨o7', rfl⟩, hB2⟩
    have hj : j < i := by omega
    have next : LookB zs i j → ∀ j', j' < j + 1 → LookB zs i j' := fun h j' hj' => by
      by_cases e : j' = j
      · subst e
        exact h
      · exact hB2 j' (by omega)
    refine ⟨_, rfl, _, rfl, _, _, rfl, rfl, _, _, rfl, rfl, _, rfl, ifD (fun c1 => ?_) (fun c1 => ⟨s4, ⟨_, rfl⟩, next fun a _ => absurd a (by omega)⟩)⟩
    refine ⟨_, rfl, _, rfl, _, _, rfl, rfl, _, rfl, _, _, rfl, rfl, _, _, rfl, rfl, _, rfl, ifD (fun c2 => ?_) (fun c2 => ⟨s4, ⟨_, rfl⟩, next fun _ a => absurd a (by omega)⟩)⟩
    obtain ⟨g1, hg1⟩ : ∃ g, gs[i]? = some g := ⟨_, List.getElem?_eq_getElem (by omega)⟩
    obtain ⟨g2, hg2⟩ : ∃ g, gs[j]? = some g := ⟨_, List.getElem?_eq_getElem (by omega)⟩
    obtain ⟨p1, q1, mp1, mq1, t1⟩ := hg i g1 hg1
    obtain ⟨p2, q2, mp2, mq2, t2⟩ := hg j g2 hg2
    have a1 : atI (gs.map V.ref) (0 + (i : Int)) = some (.ref g1) := at_of (Int.zero_add _) (by rw [List.getElem?_map, hg1]; rfl)
    have a2 : atI (gs.map V.ref) (0 + (j : Int)) = some (.ref g2) := at_of (Int.zero_add _) (by rw [List.getElem?_map, hg2]; rfl)
    have hl4 := s4.seq hl
    have s24 := s2.trans s4
    have four : ∀ z ∈ [p1, q1, p2, q2], z ∈ zs := by
      intro z hz
      simp only [List.mem_cons, List.not_mem_nil, or_false] at hz
      rcases hz with rfl | rfl | rfl | rfl <;> assumption
    refine ⟨_, rfl, _, rfl, _, _, _, _, rfl, rfl, hl4, a1, _, rfl, _, rfl, _, _, _, _, rfl, rfl, hl4, a2, _, _, _, _, _, _, rfl, tSame s4 t1.t, tSame s4 t2.t, fun z hz => (hp.same s24) z (four z hz), fun z hz => ho z (four z hz), fun b H5 hb s5 => ?_⟩
    rw [show p1.2 = (ord _ _).1 from congrArg Prod.fst t1.o, show q1.2 = (ord _ _).2 from congrArg Prod.snd t1.o, show p2.2 = (ord _ _).1 from congrArg Prod.fst t2.o, show q2.2 = (ord _ _).2 from congrArg Prod.snd t2.o] at hb
    refine ⟨_, rfl, ifB (fun e => no _ (s24.trans s5) fun S => ?_) (fun e => ⟨s4.trans s5, ⟨_, rfl⟩, next fun _ _ => metB_ord.mp (by rw [← hb]; exact e)⟩)⟩
    have := metB_ord.mpr ((L.mpr S).2 i hi j hj (by omega) (by omega))
    rw [← hb, e] at this
    cases this
theorem ok__law_made (T : Txt K mg) (TB : TxtB T base w) : FnOk P w K mg base CX0 2 T.a__law_made T.d__law_made ["points"] (fun vs H Q _ => ∃ (a : Addr) (zs : List Zp), vs = [.ref a] ∧ TN H a (refs zs) ∧ LnAt K H a zs ∧ 1 ≤ zs.length ∧ zs.length ≤ 100 ∧ ∀ (c : Addr) (ws : List Zp) H', LnAt K H' c ws → Made zs ws → Same H H' → Q (.ref c) H') := by
  refine T.F__law_made.ok sc__law_made (fun vs H Q E h => ?_) (fun cdv A outer s H vs Q E hr h => ?_)
  · obtain ⟨a, zs, rfl, hn, ha, l1, l2, k⟩ := h
    rfl
  · obtain ⟨a, zs, rfl, hn, ha, l1, l2, k⟩ := h
    refine ⟨_, (C8.pss_cut (ps_if (pt_cmpR op_lt (pe_call (ok__law_size T TB) (hr.mono (by omega)) rfl T.m__law_size T.F__law_size.kp T.b__law_size .nil pass0 (pa_cons (pv 0) pa_nil)) pe_int (nomark _))
        (pss_one (ps_set (i := 0) sc__law_made.nd rfl (Or.inl rfl) (pe_revTN (pv 0))))
        pss_nil)
      (pss_cons (ps_set (i := 1) sc__law_made.nd rfl (Or.inl rfl) (pe_bmT PySem.F.slot_tuple_index PySem.F.type_tuple_index (mt_indexT hr.units65) (pv 0) (pa_cons (pe_callB (cr_minT rfl hr.units) (by rfl) T.n_min (by decide +kernel) (pa_cons (pv 0) pa_nil)) pa_nil)))
      (pss_one (ps_ret (pe_op op_catA (pe_slice sl_tupA (pv 0) (po_some (pv 1)) po_none) (pe_slice sl_tupA (pv 0) po_none (po_some (pv 1)))))))), ?_⟩
    refine ⟨fun σ' H' => ∃ (c : Addr) (ys : List Zp), σ' = [some (.ref c), none] ∧ Same H H' ∧ TN H' c (refs ys) ∧ LnAt K H' c ys ∧ ys = (if around zs < 0 then zs.reverse else zs), ?_, ?_⟩
    · refine ⟨_, rfl, _, _, rfl, ha, l1, l2, _, _, rfl, rfl, _, rfl, ifD (fun e => ?_) (fun e => ⟨a, zs, rfl, Same.refl _, hn, ha, by rw [if_neg e]⟩)⟩
      refine ⟨_, rfl, _, _, rfl, ha.t, by rw [refs_len]; omega, fun p o hp ho => ?_⟩
      have s3 := same_new (o := HO.frz o (.tup (refs zs).reverse)) hp
      have er : refs zs.reverse = (refs zs).reverse := List.map_reverse
      exact ⟨p, zs.reverse, rfl, s3, by rw [er]; exact .here ho, (ha.same s3).sub (fun z hz => List.mem_reverse.mp hz) (by rw [er]; exact (TN.here ho).t), by rw [if_pos e]⟩
    rintro σ' H2 ⟨c, ys, rfl, s2, hnc, hy, ey⟩
    have ly : ys.length = zs.length := by rw [ey]; split <;> simp
    refine ⟨_, rfl, ⟨_, _, rfl, hnc⟩, _, rfl, _, _, rfl, .inl hy.t, hy.p, by omega, fun z mz hz => ?_⟩
    obtain ⟨j, w, h1, h2, h3⟩ := first_idx ys z mz
    have mw := List.mem_of_getElem? h1
    have hj := (List.getElem?_eq_some_iff.mp h1).1
    refine ⟨_, _, _, _, _, j, w, rfl, rfl, hy.t, hy.p, hy.p z mz, h1, congrArg Prod.fst h2, congrArg Prod.snd h2, fun m u hm hu e => h3 m u hm hu (pt_eq e.1 e.2), ?_⟩
    have big : 1000 ≤ sizeLine := by decide
    refine ⟨_, rfl, _, rfl, _, rfl, ?_⟩
    refine noPart (slA_of hy.t fun q1 H3 s3 t1 => ?_)
    rw [cut_drop, refs_drop] at t1
    refine ⟨_, rfl, _, rfl, _, rfl, ?_⟩
    refine slA_of (tSame s3 hy.t) fun q2 H4 s4 t2 => ?_
    rw [cut_take, refs_take] at t2
    refine catA_of (tSame s4 t1) t2 (by rw [refs_len, refs_len, List.length_drop, List.length_take]; omega) fun q3 H5 s5 t3 => ?_
    rw [← refs_app] at t3
    have s35 := (s3.trans s4).trans s5
    exact k q3 _ H5 ((hy.same s35).sub (fun z hz => (List.mem_append.mp hz).elim List.mem_of_mem_drop List.mem_of_mem_take) t3) ⟨⟨ys, j, w, ey, h1, fun u hu => by rw [h2]; exact hz u hu, fun m u hm hu => by rw [h2]; exact h3 m u hm hu, rfl⟩⟩ (s2.trans s35)
theorem ok__law_grown (T : Txt K mg) (TB : TxtB T base w) : FnOk P w K mg base CX0 5 T.a__law_grown T.d__law_grown ["stream", "far", "most"] (fun vs H Q _ => ∃ (s b : Addr) (far : Int) (m : Nat), vs = [.ref s, .int far, .int m] ∧ (2 ≤ far ∧ far ≤ 1000) ∧ 1 ≤ m ∧ m ≤ 30 ∧ Strm H s b ∧ ∀ (a : Addr) (zs : List Zp) H', TN H' a (refs zs) → LnAt K H' a zs → (∀ z ∈ zs, In far z.2.1 z.2.2) → Simp zs → 3 ≤ zs.length → zs.length ≤ 3 + m → Strm H' s b → But s H H' → Q (.ref a) H') := by
  refine T.F__law_grown.ok sc__law_grown (fun vs H Q E h => ?_) (fun cdv A outer s H vs Q E hr h => ?_)
  · obtain ⟨s, b, far, m, rfl, hf', m1, m2, S, k⟩ := h
    rfl
  · obtain ⟨s, b, far, m, rfl, hf', m1, m2, S, k⟩ := h
    refine ⟨_, (pss_cons (ps_setLc (i := 3) (own := [("k", 7)]) (g := gName 7) (tt := tYes) rfl sc__law_grown.nd rfl rfl (sw_true rfl rfl rfl (by decide +kernel)) (pi_range1 rfl T.n_range (pa_cons pe_int pa_nil)) (blkOk_by (own := [("k", 7)]) (N := N__law_grown) (sc := defScope s__law_grown) (by decide +kernel)) (fun _ _ _ _ _ => pg_name (i := 7) sc__law_grown.nd rfl (Or.inl rfl)) (fun _ _ _ _ _ => pts_nil) (fun _ _ _ _ _ => (pe_call (ok__law_point T TB) (hr.mono (by omega)) rfl T.m__law_point T.F__law_point.kp T.b__law_point .nil pass0 (pa_cons (pv 0) (pa_cons (pv 1) pa_nil)))))
      (pss_cons (ps_for PassesOwn.never rfl (pi_range1 rfl T.n_range (pa_cons pe_int pa_nil)) (pg_name (i := 4) sc__law_grown.nd rfl (Or.inl rfl))
        (pss_one (ps_if (pt_cmpR op_eq (pe_call (ok__law_turn T TB) (hr.mono (by omega)) rfl T.m__law_turn T.F__law_turn.kp T.b__law_turn .nil pass0 (pa_cons (pe_ix (r := rIxL K) ix_list (pv 3) pe_int (fun _ _ => rfl)) (pa_cons (pe_ix (r := rIxL K) ix_list (pv 3) pe_int (fun _ _ => rfl)) (pa_cons (pe_ix (r := rIxL K) ix_list (pv 3) pe_int (fun _ _ => rfl)) pa_nil)))) pe_int (nomark _))
          (pss_one (ps_setLc (i := 3) (own := [("k", 7)]) (g := gName 7) (tt := tYes) rfl sc__law_grown.nd rfl rfl (sw_true rfl rfl rfl (by decide +kernel)) (pi_range1 rfl T.n_range (pa_cons pe_int pa_nil)) (blkOk_by (own := [("k", 7)]) (N := N__law_grown) (sc := defScope s__law_grown) (by decide +kernel)) (fun _ _ _ _ _ => pg_name (i := 7) sc__law_grown.nd rfl (Or.inl rfl)) (fun _ _ _ _ _ => pts_nil) (fun _ _ _ _ _ => (pe_call (ok__law_point T TB) (hr.mono (by omega)) rfl T.m__law_point T.F__law_point.kp T.b__law_point .nil pass0 (pa_cons (pv 0) (pa_cons (pv 1) pa_nil))))))
          pss_nil)))
      (C8.pss_cut (ps_if (pt_cmpR op_eq (pe_call (ok__law_turn T TB) (hr.mono (by omega)) rfl T.m__law_turn T.F__law_turn.kp T.b__law_turn .nil pass0 (pa_cons (pe_ix (r := rIxL K) ix_list (pv 3) pe_int (fun _ _ => rfl)) (pa_cons (pe_ix (r := rIxL K) ix_list (pv 3) pe_int (fun _ _ => rfl)) (pa_cons (pe_ix (r := rIxL K) ix_list (pv 3) pe_int (fun _ _ => rfl)) pa_nil)))) pe_int (nomark _))
        (pss_one (ps_set (i := 3) sc__law_grown.nd rfl (Or.inl rfl) (pe_lst (pa_cons (pe_tup (pa_cons pe_int (pa_cons pe_int pa_nil))) (pa_cons (pe_tup (pa_cons (pv 1) (pa_cons pe_int pa_nil))) (pa_cons (pe_tup (pa_cons pe_int (pa_cons pe_int pa_nil))) pa_nil))))))
        pss_nil)
      (pss_cons (ps_for PassesOwn.never rfl (pi_range1 rfl T.n_range (pa_cons (pe_call (ok__law_next T TB) (hr.mono (by omega)) rfl T.m__law_next T.F__law_next.kp T.b__law_next .nil pass0 (pa_cons (pv 0) (pa_cons (pv 2) pa_nil))) pa_nil)) (pg_name (i := 4) sc__law_grown.nd rfl (Or.inl rfl))
        (pss_cons (ps_set (i := 5) sc__law_grown.nd rfl (Or.inl rfl) (pe_call (ok__law_next T TB) (hr.mono (by omega)) rfl T.m__law_next T.F__law_next.kp T.b__law_next .nil pass0 (pa_cons (pv 0) (pa_cons (pe_callB call_len (by rfl) T.n_len (by decide +kernel) (pa_cons (pv 3) pa_nil)) pa_nil))))
        (pss_cons (ps_set (i := 6) sc__law_grown.nd rfl (Or.inl rfl) (pe_op op_cat (pe_op op_cat (pe_slice sl_list (pv 3) po_none (po_some (pv 5))) (pe_lst (pa_cons (pe_call (ok__law_point T TB) (hr.mono (by omega)) rfl T.m__law_point T.F__law_point.kp T.b__law_point .nil pass0 (pa_cons (pv 0) (pa_cons (pv 1) pa_nil))) pa_nil))) (pe_slice sl_list (pv 3) (po_some (pv 5)) po_none)))
        (pss_one (ps_if (pt_val (pe_call (ok__law_is_simple T TB) (hr.mono (by omega)) rfl T.m__law_is_simple T.F__law_is_simple.kp T.b__law_is_simple .nil pass0 (pa_cons (pv 6) pa_nil)))
          (pss_one (ps_set (i := 3) sc__law_grown.nd rfl (Or.inl rfl) (pv 6)))
          pss_nil)))))
      (pss_one (ps_ret (pe_callTy call_tuple_ofN (by rfl) T.n_tuple (by decide +kernel) (pa_cons (pv 3) pa_nil)))))))), ?_⟩
    have E0 : But s H H := But.refl
    
    refine ⟨_, rfl, by decide, by decide, fun D hD => ?_⟩
    have nD : D ≠ s := S.new1 hD
    have mD : D ≠ b := S.new2 hD
    refine walk_any (walk_range (lo := 0) (n := 3)) (fun i H' => ∃ zs : List Zp, Strm H' s b ∧ But s H H' ∧ H' D = some (.lst (refs zs)) ∧ zs.length = i ∧ Pts K H' zs ∧ ∀ z ∈ zs, In far z.2.1 z.2.2) ⟨[], S.over hD, E0.then_new hD, upd_same, rfl, Pts.nil, (fun z h => by cases h)⟩ (fun i H' _ h => trivial) ?_ ?_
    · rintro i x H1 H2 hi ⟨zs, S1, e1, hD1, hl, hp, hin⟩ ⟨rfl, rfl⟩
      refine ⟨rfl, yesI ?_⟩
      refine iteT ?_
      refine ⟨_, rfl, _, rfl, _, _, _, rfl, by omega, by omega, S1, fun a1 x1 y1 H3 i1 S3 B3 hp3 => ?_⟩
      have hD3 := B3.get nD hD1
      refine ⟨_, hD3, by rw [List.length_map, hl]; exact line_of (by omega), zs ++ [(a1, x1, y1)], S3.at nD mD, E0.putN hD (e1.trans B3), by rw [upd_same, refs_app]; rfl, by rw [List.length_append, hl]; rfl, ((hp.but B3 S1).at ⟨_, hD3⟩).app (.one (tAt ⟨_, hD3⟩ hp3)), fun z h => ?_⟩
      rcases List.mem_append.mp h with h | h
      · exact hin z h
      · rw [List.mem_singleton] at h; subst h; exact i1
    
    rintro H1 ⟨zs, S1, e1, hD1, hl, hp, hin⟩
    have P1 : PF far K H1 s D zs := ⟨hD1, nD, hp, hin⟩
    clear hD1 hp hin
    refine ⟨_, rfl, by decide, by decide, for_range (lo := 0) (n := 6) (fun i σ H' => ∃ (p : Addr) (zs : List Zp) (o4 : Option V), σ = [some (.ref s), some (.int far), some (.int m), some (.ref p), o4, none, none, none] ∧ Strm H' s b ∧ But s H H' ∧ PF far K H' s p zs ∧ zs.length = 3) ⟨D, zs, none, rfl, S1, e1, P1, hl⟩ ?_ ?_⟩
    · rintro i σ H2 hi ⟨p, zs, o4, rfl, S2, e2, P2, hl⟩
      obtain ⟨z0, z1, z2, rfl⟩ := three_of hl
      refine ⟨_, rfl, _, _, _, _, rfl, rfl, P2.seq, at0, _, rfl, _, _, _, _, rfl, rfl, P2.seq, at1, _, rfl, _, _, _, _, rfl, rfl, P2.seq, at2, _, _, _, _, _, _, _, _, _, rfl, P2.at_ (i := 0) rfl, P2.at_ (i := 1) rfl, P2.at_ (i := 2) rfl, ⟨(P2.on hf'.2 _ (by simp)).sx, (P2.on hf'.2 _ (by simp)).sx, (P2.on hf'.2 _ (by simp)).sy, (P2.on hf'.2 _ (by simp)).sy⟩, rfl, _, rfl, ifD (fun e => ?_) (fun e => ⟨p, _, _, rfl, S2, e2, P2, rfl⟩)⟩
    
      refine ⟨_, rfl, by decide, by decide, fun D2 hD2 => ?_⟩
      have nD2 : D2 ≠ s := S2.new1 hD2
      have mD2 : D2 ≠ b := S2.new2 hD2
      refine walk_any (walk_range (lo := 0) (n := 3)) (fun i H' => ∃ zs : List Zp, Strm H' s b ∧ But s H H' ∧ H' D2 = some (.lst (refs zs)) ∧ zs.length = i ∧ Pts K H' zs ∧ ∀ z ∈ zs, In far z.2.1 z.2.2) ⟨[], S2.over hD2, e2.then_new hD2, upd_same, rfl, Pts.nil, (fun z h => by cases h)⟩ (fun i H' _ h => trivial) ?_ ?_
      · rintro i x H1 H2 hi ⟨zs, S1, e1, hD1, hl, hp, hin⟩ ⟨rfl, rfl⟩
        refine ⟨rfl, yesI ?_⟩
        refine iteT ?_
        refine ⟨_, rfl, _, rfl, _, _, _, rfl, by omega, by omega, S1, fun a1 x1 y1 H3 i1 S3 B3 hp3 => ?_⟩
        have hD3 := B3.get nD2 hD1
        refine ⟨_, hD3, by rw [List.length_map, hl]; exact line_of (by omega), zs ++ [(a1, x1, y1)], S3.at nD2 mD2, e2.putN hD2 (e1.trans B3), by rw [upd_same, refs_app]; rfl, by rw [List.length_append, hl]; rfl, ((hp.but B3 S1).at ⟨_, hD3⟩).app (.one (tAt ⟨_, hD3⟩ hp3)), fun z h => ?_⟩
        rcases List.mem_append.mp h with h | h
        · exact hin z h
        · rw [List.mem_singleton] at h; subst h; exact i1
      
      rintro H3 ⟨zs, S3, e3, hD3, hl, hp, hin⟩
      exact ⟨D2, zs, _, rfl, S3, e3, ⟨hD3, nD2, hp, hin⟩, hl⟩
    rintro σ H2 ⟨p, zs, o4, rfl, S2, e2, P2, hl⟩
    clear P1 e1 S1 hD nD mD
    refine ⟨fun σ' H' => ∃ (p : Addr) (z0 z1 z2 : Zp) (o4 : Option V), σ' = [some (.ref s), some (.int far), some (.int m), some (.ref p), o4, none, none, none] ∧ Strm H' s b ∧ But s H H' ∧ PF far K H' s p [z0, z1, z2] ∧ tn z0.2 z1.2 z2.2 ≠ 0, ?_, ?_⟩
    · obtain ⟨z0, z1, z2, rfl⟩ := three_of hl
      refine ⟨_, rfl, _, _, _, _, rfl, rfl, P2.seq, at0, _, rfl, _, _, _, _, rfl, rfl, P2.seq, at1, _, rfl, _, _, _, _, rfl, rfl, P2.seq, at2, _, _, _, _, _, _, _, _, _, rfl, P2.at_ (i := 0) rfl, P2.at_ (i := 1) rfl, P2.at_ (i := 2) rfl, ⟨(P2.on hf'.2 _ (by simp)).sx, (P2.on hf'.2 _ (by simp)).sx, (P2.on hf'.2 _ (by simp)).sy, (P2.on hf'.2 _ (by simp)).sy⟩, rfl, _, rfl, ifD (fun e => ?_) (fun e => ⟨p, z0, z1, z2, _, rfl, S2, e2, P2, fun z => e (congrArg V.int z)⟩)⟩
      refine ⟨small rfl, fun q0 w0 => ?_⟩
      have f0 := same_new (o := HO.tup [.int 0, .int 0]) w0
      have t0 : SqT K (upd H2 q0 (.tup [.int 0, .int 0])) q0 [.int 0, .int 0] := tHere
      refine ⟨_, rfl, small rfl, fun q1 w1 => ?_⟩
      have f1 := same_new (o := HO.tup [.int far, .int 0]) w1
      have t0 := tSame f1 t0
      have t1 : SqT K (upd (upd H2 q0 (.tup [.int 0, .int 0])) q1 (.tup [.int far, .int 0])) q1 [.int far, .int 0] := tHere
      refine ⟨small rfl, fun q2 w2 => ?_⟩
      have f2 := same_new (o := HO.tup [.int 0, .int 1]) w2
      have t0 := tSame f2 t0
      have t1 := tSame f2 t1
      have t2 : SqT K (upd (upd (upd H2 q0 (.tup [.int 0, .int 0])) q1 (.tup [.int far, .int 0])) q2 (.tup [.int 0, .int 1])) q2 [.int 0, .int 1] := tHere
      have f := (f0.trans f1).trans f2
      generalize upd (upd (upd H2 q0 (.tup [.int 0, .int 0])) q1 (.tup [.int far, .int 0])) q2 (.tup [.int 0, .int 1]) = H3 at f t0 t1 t2 ⊢
      refine ⟨small rfl, fun L wL => ?_⟩
      have S3 := S2.same f
      refine ⟨L, (q0, 0, 0), (q1, far, 0), (q2, 0, 1), _, rfl, S3.over wL, (e2.then_same f).then_new wL, ⟨upd_same, S3.new1 wL, ?_, ?_⟩, ?_⟩
      · intro z hz
        simp only [List.mem_cons, List.not_mem_nil, or_false] at hz
        rcases hz with rfl | rfl | rfl
        · exact tOver wL t0
        · exact tOver wL t1
        · exact tOver wL t2
      · intro z hz
        simp only [List.mem_cons, List.not_mem_nil, or_false] at hz
        unfold In
        rcases hz with rfl | rfl | rfl <;> dsimp only <;> omega
      · unfold tn turnI
        dsimp only
        intro z
        have : far = 0 := by grind
        omega
    rintro σ' H3 ⟨p', z0, z1, z2, o4', rfl, S3, e3, P3, hT⟩
    have hs3 := tri_simp hT
    refine ⟨_, rfl, _, rfl, _, _, _, rfl, by omega, by omega, S3, fun d H4 d0 d1 S4 B4 => ⟨_, rfl, by omega, by omega, for_range (lo := 0) (n := d.toNat) (fun i σ H' => ∃ (p : Addr) (zs : List Zp) (o4 o5 o6 : Option V), σ = [some (.ref s), some (.int far), some (.int m), some (.ref p), o4, o5, o6, none] ∧ Strm H' s b ∧ But s H H' ∧ PF far K H' s p zs ∧ 3 ≤ zs.length ∧ zs.length ≤ 3 + i ∧ Simp zs) ⟨p', [z0, z1, z2], _, none, none, rfl, S4, e3.trans B4, P3.but B4 S3, by simp, by simp, hs3⟩ ?_ ?_⟩⟩
    rotate_left
    · rintro σ H5 ⟨p5, zs, o5, o6, o7, rfl, S5, e5, P5, l3, lm, hs⟩
      refine ⟨_, rfl, _, _, rfl, P5.seq, fun t o ht ho => ?_⟩
      exact k t zs _ (.here ho) ⟨(TN.here ho).t, P5.p.over ht, P5.on hf'.2⟩ P5.ins hs l3 (by omega) (S5.over ht) (e5.then_new ht)
    rintro i σ H5 hi ⟨p5, zs, o5, o6, o7, rfl, S5, e5, P5, l3, lm, hs⟩
    have hi : i < m := by omega
    have lp : 0 < (((refs zs).length : Nat) : Int) ∧ (((refs zs).length : Nat) : Int) < 2 ^ 200 := by rw [refs_len]; omega
    refine ⟨_, rfl, _, rfl, _, _, rfl, .inl ⟨_, P5.seq, rfl⟩, _, _, _, rfl, lp.1, lp.2, S5, fun j H6 j0 j1 S6 B6 => ?_⟩
    have P6 := P5.but B6 S5
    have e6 := e5.trans B6
    rw [refs_len] at j1
    obtain ⟨n, rfl⟩ : ∃ n : Nat, j = n := ⟨j.toNat, by omega⟩
    refine ⟨_, rfl, _, rfl, _, rfl, ?_⟩
    refine ⟨_, _, rfl, P6.seq, fun c1 w1 => ?_⟩
    rw [cut_take, refs_take]
    have f1 := same_new (o := HO.lst (refs (zs.take n))) w1
    have C1 : PF far K (upd H6 c1 (.lst (refs (zs.take n)))) s c1 (zs.take n) := ⟨upd_same, S6.new1 w1, fun z h => (P6.p.over w1) z (List.mem_of_mem_take h), fun z h => P6.ins z (List.mem_of_mem_take h)⟩
    have P7 := P6.same f1
    have S7 := S6.same f1
    have e7 := e6.then_same f1
    generalize upd H6 c1 (.lst (refs (zs.take n))) = H7 at C1 P7 S7 e7 ⊢
    refine ⟨_, rfl, _, rfl, _, _, _, rfl, by omega, by omega, S7, fun a1 x1 y1 H8 i1 S8 B8 hp8 => ⟨small rfl, fun L wL => ?_⟩⟩
    have C1 := (C1.but B8 S7).over (o := HO.lst [V.ref a1]) wL
    have P8 := (P7.but B8 S7).over (o := HO.lst [V.ref a1]) wL
    have e8 := (e7.trans B8).then_new (o := HO.lst [V.ref a1]) wL
    have hz8 := tOver (o := HO.lst [V.ref a1]) wL hp8
    have hL8 : upd H8 L (.lst [V.ref a1]) L = some (.lst [V.ref a1]) := upd_same
    have S9 := S8.over (o := HO.lst [V.ref a1]) wL
    generalize upd H8 L (.lst [V.ref a1]) = H9 at C1 P8 e8 hz8 hL8 S9 ⊢
    have big : 1000 ≤ sizeLine := by decide
    refine ⟨_, _, _, _, rfl, rfl, C1.l, hL8, by rw [refs_len, List.length_take]; show _ + 1 ≤ _; omega, fun q wq => ?_⟩
    rw [show refs (zs.take n) ++ [V.ref a1] = refs (zs.take n ++ [(a1, x1, y1)]) from by rw [refs_app]; rfl]
    have hq : upd H9 q (.lst (refs (zs.take n ++ [(a1, x1, y1)]))) q = some (.lst (refs (zs.take n ++ [(a1, x1, y1)]))) := upd_same
    have f9 := same_new (o := HO.lst (refs (zs.take n ++ [(a1, x1, y1)]))) wq
    have P9 := P8.same f9
    have e9 := e8.then_same f9
    have hz9 := tSame f9 hz8
    have S10 := S9.same f9
    generalize upd H9 q (.lst (refs (zs.take n ++ [(a1, x1, y1)]))) = H10 at hq P9 e9 hz9 S10 ⊢
    refine ⟨_, rfl, _, rfl, _, rfl, ?_⟩
    refine noPart ⟨_, _, rfl, P9.seq, fun c2 w2 => ?_⟩
    rw [cut_drop, refs_drop]
    have f10 := same_new (o := HO.lst (refs (zs.drop n))) w2
    have hc2 : upd H10 c2 (.lst (refs (zs.drop n))) c2 = some (.lst (refs (zs.drop n))) := upd_same
    have P10 := P9.same f10
    have hq := f10.get hq
    have e10 := e9.then_same f10
    have hz10 := tSame f10 hz9
    have S11 := S10.same f10
    generalize upd H10 c2 (.lst (refs (zs.drop n))) = H11 at hc2 P10 hq e10 hz10 S11 ⊢
    refine ⟨_, _, _, _, rfl, rfl, hq, hc2, by rw [refs_len, refs_len, List.length_append, List.length_take, List.length_drop]; show _ + 1 + _ ≤ _; omega, fun r wr => ?_⟩
    rw [← refs_app]
    have f11 := same_new (o := HO.lst (refs (zs.take n ++ [(a1, x1, y1)] ++ zs.drop n))) wr
    have hr : upd H11 r (.lst (refs (zs.take n ++ [(a1, x1, y1)] ++ zs.drop n))) r = some (.lst (refs (zs.take n ++ [(a1, x1, y1)] ++ zs.drop n))) := upd_same
    have P11 := P10.same f11
    have e11 := e10.then_same f11
    have hz11 := tSame f11 hz10
    have S12 := S11.same f11
    have nr := S11.new1 wr
    generalize upd H11 r (.lst (refs (zs.take n ++ [(a1, x1, y1)] ++ zs.drop n))) = H12 at hr P11 e11 hz11 S12 ⊢
    have mem : ∀ z ∈ zs.take n ++ [(a1, x1, y1)] ++ zs.drop n, z ∈ zs ∨ z = (a1, x1, y1) := by
      intro z h
      rcases List.mem_append.mp h with h | h
      · rcases List.mem_append.mp h with h | h
        · exact .inl (List.mem_of_mem_take h)
        · exact .inr (List.mem_singleton.mp h)
      · exact .inl (List.mem_of_mem_drop h)
    have R : PF far K H12 s r (zs.take n ++ [(a1, x1, y1)] ++ zs.drop n) := ⟨hr, nr, fun z h => by
        rcases mem z h with h | rfl
        · exact P11.p z h
        · exact hz11, fun z h => by
        rcases mem z h with h | rfl
        · exact P11.ins z h
        · exact i1⟩
    have lr : (zs.take n ++ [(a1, x1, y1)] ++ zs.drop n).length = zs.length + 1 := by
      rw [List.length_append, List.length_append, List.length_take, List.length_drop]
      show _ + 1 + _ = _
      omega
    refine ⟨_, rfl, _, _, rfl, .inl R.seq, R.p, R.on hf'.2, by omega, by omega, fun b' H13 hb' s13 => ?_⟩
    refine ⟨_, rfl, ifB (fun eb => ?_) (fun _ => ?_)⟩
    · exact ⟨_, rfl, r, _, _, _, _, rfl, S12.same s13, e11.then_same s13, R.same s13, by omega, by omega, hb'.mp eb⟩
    · exact ⟨p5, zs, _, _, _, rfl, S12.same s13, e11.then_same s13, P11.same s13, l3, by omega, hs⟩
theorem ok__law_image (T : Txt K mg) (TB : TxtB T base w) : FnOk P w K mg base CX0 1 T.a__law_image T.d__law_image ["p", "how"] (fun vs H Q _ => ∃ (a h : Addr) (x : Pt) (f : Int) (r : Nat) (mi : Bool) (d e : Int), vs = [.ref a, .ref h] ∧ SqT K H a [.int x.1, .int x.2] ∧ HowAt K H h r mi d e ∧ In f x.1 x.2 ∧ f ≤ 100 ∧ ∀ q, H q = none → Q (.ref q) (upd H q (.tup [.int (img r mi d e x).1, .int (img r mi d e x).2]))) := by
  refine T.F__law_image.ok sc__law_image (fun vs H Q E h => ?_) (fun cdv A outer s H vs Q E hr h => ?_)
  · obtain ⟨a, h, x, f, r, mi, d, e, rfl, ha, hh, ix, hf, k⟩ := h
    rfl
  · obtain ⟨a, h, x, f, r, mi, d, e, rfl, ha, hh, ix, hf, k⟩ := h
    refine ⟨_, (pss_cons (ps_asg (pv 0) (pg_tup (by rfl) (pgs_cons (pg_name (i := 2) sc__law_image.nd rfl (Or.inl rfl)) (pgs_cons (pg_name (i := 3) sc__law_image.nd rfl (Or.inl rfl)) pgs_nil))))
      (pss_cons (ps_for PassesOwn.never rfl (pi_range1 rfl T.n_range (pa_cons (pe_ix (r := rIxL K) ix_list (pv 1) pe_int (fun _ _ => rfl)) pa_nil)) (pg_name (i := 4) sc__law_image.nd rfl (Or.inl rfl))
        (pss_one (ps_par (i := 2) (j := 3) (by rfl) sc__law_image.nd rfl rfl (by decide) rfl rfl (pa_cons (pe_op op_sub pe_int (pv 3)) (pa_cons (pv 2) pa_nil)) (by rfl))))
      (C8.pss_cut (ps_if (pt_cmpR op_eq (pe_ix (r := rIxL K) ix_list (pv 1) pe_int (fun _ _ => rfl)) pe_int (nomark _))
        (pss_one (ps_set (i := 2) sc__law_image.nd rfl (Or.inl rfl) (pe_op op_sub pe_int (pv 2))))
        pss_nil)
      (pss_one (ps_ret (pe_tup (pa_cons (pe_op op_add (pv 2) (pe_ix (r := rIxL K) ix_list (pv 1) pe_int (fun _ _ => rfl))) (pa_cons (pe_op op_add (pv 3) (pe_ix (r := rIxL K) ix_list (pv 1) pe_int (fun _ _ => rfl))) pa_nil)))))))), ?_⟩
    refine ⟨_, rfl, _, _, rfl, ha, rfl, _, _, rfl, _, _, rfl, rfl, ?_⟩
    have r3 := hh.r3
    refine ⟨_, rfl, _, _, _, _, rfl, rfl, hh.l, at0, _, rfl, by omega, by omega, for_range (lo := 0) (n := r) (fun i σ H' => H' = H ∧ ∃ o : Option V, σ = [some (.ref a), some (.ref h), some (.int (quartN i x).1), some (.int (quartN i x).2), o]) ⟨rfl, none, rfl⟩ ?_ ?_⟩
    · rintro i σ H1 hi ⟨rfl, o, rfl⟩
      exact ⟨_, rfl, _, _, rfl, rfl, _, rfl, _, _, rfl, rfl, _, rfl⟩
    rintro σ H1 ⟨rfl, o, rfl⟩
    refine ⟨fun σ' H' => H' = H1 ∧ σ' = [some (.ref a), some (.ref h), some (.int (mid_ mi (quartN r x)).1), some (.int (mid_ mi (quartN r x)).2), o], ?_, ?_⟩
    · refine ⟨_, rfl, _, _, _, _, rfl, rfl, hh.l, at1, rfl, _, rfl, ifD (fun c => ?_) (fun c => ?_)⟩
      · have m : mi = true := by
          cases mi
          · cases c
          · rfl
        subst m
        exact ⟨_, rfl, _, _, rfl, rfl, rfl, rfl⟩
      · have m : mi = false := by
          cases mi
          · rfl
          · exact absurd rfl c
        subst m
        exact ⟨rfl, rfl⟩
    rintro σ H2 ⟨rfl, rfl⟩
    exact ⟨_, rfl, _, rfl, _, _, _, _, rfl, rfl, hh.l, at2, _, _, rfl, rfl, _, rfl, _, rfl, _, _, _, _, rfl, rfl, hh.l, at3, _, _, rfl, rfl, small rfl, fun q hq => k q hq⟩
theorem ok__law_segment_image (T : Txt K mg) (TB : TxtB T base w) : FnOk P w K mg base CX0 2 T.a__law_segment_image T.d__law_segment_image ["s", "how"] (fun vs H Q _ => ∃ (g u w h : Addr) (a c : Pt) (f : Int) (r : Nat) (mi : Bool) (d e : Int), vs = [.ref g, .ref h] ∧ SqT K H g [.ref u, .ref w] ∧ PtAt K H u a ∧ PtAt K H w c ∧ HowAt K H h r mi d e ∧ In f a.1 a.2 ∧ In f c.1 c.2 ∧ f ≤ 100 ∧ ∀ (t p q : Addr) H', Same H H' → SqT K H' t [.ref p, .ref q] → PtAt K H' p (ord (img r mi d e a) (img r mi d e c)).1 → PtAt K H' q (ord (img r mi d e a) (img r mi d e c)).2 → Q (.ref t) H') := by
  refine T.F__law_segment_image.ok sc__law_segment_image (fun vs H Q E h => ?_) (fun cdv A outer s H vs Q E hr h => ?_)
  · obtain ⟨g, u, w, h, a, c, f, r, mi, d, e, rfl, hg, hu, hw, hh, iu, iw, hf, k⟩ := h
    rfl
  · obtain ⟨g, u, w, h, a, c, f, r, mi, d, e, rfl, hg, hu, hw, hh, iu, iw, hf, k⟩ := h
    refine ⟨_, (pss_cons (ps_set (i := 2) sc__law_segment_image.nd rfl (Or.inl rfl) (pe_call (ok__law_image T TB) (hr.mono (by omega)) rfl T.m__law_image T.F__law_image.kp T.b__law_image .nil pass0 (pa_cons (pe_ix (r := rIxT K) ix_tup (pv 0) pe_int (fun _ _ => rfl)) (pa_cons (pv 1) pa_nil))))
      (pss_cons (ps_set (i := 3) sc__law_segment_image.nd rfl (Or.inl rfl) (pe_call (ok__law_image T TB) (hr.mono (by omega)) rfl T.m__law_image T.F__law_image.kp T.b__law_image .nil pass0 (pa_cons (pe_ix (r := rIxT K) ix_tup (pv 0) pe_int (fun _ _ => rfl)) (pa_cons (pv 1) pa_nil))))
      (pss_one (ps_ret (pe_tup (pa_cons (pe_callB (call_minP rfl hr.units) (by rfl) T.n_min (by decide +kernel) (pa_cons (pv 2) (pa_cons (pv 3) pa_nil))) (pa_cons (pe_callB (call_maxP rfl hr.units) (by rfl) T.n_max (by decide +kernel) (pa_cons (pv 2) (pa_cons (pv 3) pa_nil))) pa_nil))))))), ?_⟩
    refine ⟨_, rfl, _, _, _, _, rfl, rfl, hg, at0, _, rfl, _, _, _, _, _, _, _, _, rfl, hu, hh, iu, hf, fun p hp => ?_⟩
    have s1 := same_new (o := HO.tup [.int (img r mi d e a).1, .int (img r mi d e a).2]) hp
    refine ⟨_, rfl, _, _, _, _, rfl, rfl, tSame s1 hg, at1, _, rfl, _, _, _, _, _, _, _, _, rfl, tSame s1 hw, hh.same s1, iw, hf, fun q hq => ?_⟩
    have s2 := s1.trans (same_new (o := HO.tup [.int (img r mi d e c).1, .int (img r mi d e c).2]) hq)
    have hp2 : SqT K (upd (upd H p (.tup [.int (img r mi d e a).1, .int (img r mi d e a).2])) q (.tup [.int (img r mi d e c).1, .int (img r mi d e c).2])) p [.int (img r mi d e a).1, .int (img r mi d e a).2] := tOver hq tHere
    have hq2 : SqT K (upd (upd H p (.tup [.int (img r mi d e a).1, .int (img r mi d e a).2])) q (.tup [.int (img r mi d e c).1, .int (img r mi d e c).2])) q [.int (img r mi d e c).1, .int (img r mi d e c).2] := tHere
    generalize upd (upd H p (.tup [.int (img r mi d e a).1, .int (img r mi d e a).2])) q (.tup [.int (img r mi d e c).1, .int (img r mi d e c).2]) = H2 at s2 hp2 hq2 ⊢
    generalize img r mi d e a = A at *
    generalize img r mi d e c = C at *
    refine ⟨_, rfl, _, rfl, _, _, _, _, _, _, rfl, hp2, hq2, _, rfl, _, rfl, _, _, _, _, _, _, rfl, hp2, hq2, small rfl, fun g hg => ?_⟩
    have s3 := s2.trans (same_new (o := HO.tup [.ref (if ltP C.1 C.2 A.1 A.2 = true then q else p), .ref (if ltP A.1 A.2 C.1 C.2 = true then q else p)]) hg)
    by_cases l : lt A C = true
    · have l2 : ltP C.1 C.2 A.1 A.2 = false := lt_le l
      have l1 : ltP A.1 A.2 C.1 C.2 = true := l
      have eo : ord A C = (A, C) := if_pos l
      rw [eo] at k
      have t0 : SqT K (upd H2 g (.tup [.ref (if ltP C.1 C.2 A.1 A.2 = true then q else p), .ref (if ltP A.1 A.2 C.1 C.2 = true then q else p)])) g [.ref p, .ref q] := by
        rw [l2, l1]
        exact tHere
      exact k g p q _ s3 t0 (tOver hg hp2) (tOver hg hq2)
    · have eo : ord A C = (C, A) := if_neg l
      have l1 : ltP A.1 A.2 C.1 C.2 = false := Bool.eq_false_iff.mpr l
      rw [eo] at k
      by_cases l2 : ltP C.1 C.2 A.1 A.2 = true
      · have t0 : SqT K (upd H2 g (.tup [.ref (if ltP C.1 C.2 A.1 A.2 = true then q else p), .ref (if ltP A.1 A.2 C.1 C.2 = true then q else p)])) g [.ref q, .ref p] := by
          rw [l2, l1]
          exact tHere
        exact k g q p _ s3 t0 (tOver hg hq2) (tOver hg hp2)
      · have l2 : ltP C.1 C.2 A.1 A.2 = false := Bool.eq_false_iff.mpr l2
        have eq : A = C := lt_tri l1 l2
        subst eq
        have t0 : SqT K (upd H2 g (.tup [.ref (if ltP A.1 A.2 A.1 A.2 = true then q else p), .ref (if ltP A.1 A.2 A.1 A.2 = true then q else p)])) g [.ref p, .ref p] := by
          rw [l1]
          exact tHere
        exact k g p p _ s3 t0 (tOver hg hp2) (tOver hg hp2)
theorem ok__law_exact (T : Txt K mg) (TB : TxtB T base w) : FnOk P w K mg base CX0 4 T.a__law_exact T.d__law_exact ["x", "y", "how"] (fun vs H Q _ => ∃ (a b h : Addr) (x y : Fr) (r : Nat) (mi : Bool) (d e : Int), vs = [.ref a, .ref b, .ref h] ∧ PtAt K H a x ∧ PtAt K H b y ∧ HowAt K H h r mi d e ∧ Fr40 (x, y) ∧ ∀ v H', Same H H' → MtAt K H' v (.cross (exH r mi d e (x, y)).1 (exH r mi d e (x, y)).2) → Q v H') := by
  refine T.F__law_exact.ok sc__law_exact (fun vs H Q E h => ?_) (fun cdv A outer s H vs Q E hr h => ?_)
  · obtain ⟨a, b, h, x, y, r, mi, d, e, rfl, ha, hb, hh, ok, k⟩ := h
    rfl
  · obtain ⟨a, b, h, x, y, r, mi, d, e, rfl, ha, hb, hh, ok, k⟩ := h
    refine ⟨_, (pss_cons (ps_for PassesOwn.never rfl (pi_range1 rfl T.n_range (pa_cons (pe_ix (r := rIxL K) ix_list (pv 2) pe_int (fun _ _ => rfl)) pa_nil)) (pg_name (i := 3) sc__law_exact.nd rfl (Or.inl rfl))
        (pss_one (ps_par (i := 0) (j := 1) (by rfl) sc__law_exact.nd rfl rfl (by decide) rfl rfl (pa_cons (pe_tup (pa_cons (pe_op op_sub pe_int (pe_ix (r := rIxT K) ix_tup (pv 1) pe_int (fun _ _ => rfl))) (pa_cons (pe_ix (r := rIxT K) ix_tup (pv 1) pe_int (fun _ _ => rfl)) pa_nil))) (pa_cons (pv 0) pa_nil)) (by rfl))))
      (C8.pss_cut (ps_if (pt_cmpR op_eq (pe_ix (r := rIxL K) ix_list (pv 2) pe_int (fun _ _ => rfl)) pe_int (nomark _))
        (pss_one (ps_set (i := 0) sc__law_exact.nd rfl (Or.inl rfl) (pe_tup (pa_cons (pe_op op_sub pe_int (pe_ix (r := rIxT K) ix_tup (pv 0) pe_int (fun _ _ => rfl))) (pa_cons (pe_ix (r := rIxT K) ix_tup (pv 0) pe_int (fun _ _ => rfl)) pa_nil)))))
        pss_nil)
      (pss_one (ps_ret (pe_tup (pa_cons pe_str (pa_cons (pe_call (ok__law_plus T TB) (hr.mono (by omega)) rfl T.m__law_plus T.F__law_plus.kp T.b__law_plus .nil pass0 (pa_cons (pv 0) (pa_cons (pe_tup (pa_cons (pe_ix (r := rIxL K) ix_list (pv 2) pe_int (fun _ _ => rfl)) (pa_cons pe_int pa_nil))) pa_nil))) (pa_cons (pe_call (ok__law_plus T TB) (hr.mono (by omega)) rfl T.m__law_plus T.F__law_plus.kp T.b__law_plus .nil pass0 (pa_cons (pv 1) (pa_cons (pe_tup (pa_cons (pe_ix (r := rIxL K) ix_list (pv 2) pe_int (fun _ _ => rfl)) (pa_cons pe_int pa_nil))) pa_nil))) pa_nil)))))))), ?_⟩
    have r3 := hh.r3
    refine ⟨_, rfl, _, _, _, _, rfl, rfl, hh.l, at0, _, rfl, by omega, by omega, for_range (lo := 0) (n := r) (fun i σ H' => Same H H' ∧ ∃ (p q : Addr) (o : Option V), σ = [some (.ref p), some (.ref q), some (.ref h), o] ∧ PtAt K H' p (exN i (x, y)).1 ∧ PtAt K H' q (exN i (x, y)).2 ∧ Fr40 (exN i (x, y))) ⟨Same.refl _, a, b, none, rfl, ha, hb, ok⟩ ?_ ?_⟩
    · rintro i σ H1 hi ⟨s1, p, q, o, rfl, hp, hq, g⟩
      refine ⟨_, rfl, _, _, _, _, rfl, rfl, hq, at0, _, _, rfl, rfl, _, rfl, _, _, _, _, rfl, rfl, hq, at1, small rfl, fun t ht => ?_⟩
      exact ⟨_, rfl, _, _, rfl, s1.trans (same_new ht), t, p, _, rfl, tHere, tOver ht hp, g.q⟩
    rintro σ H1 ⟨s1, p, q, o, rfl, hp, hq, g⟩
    generalize ez : exN r (x, y) = z at hp hq g
    refine ⟨fun σ' H' => Same H H' ∧ ∃ p : Addr, σ' = [some (.ref p), some (.ref q), some (.ref h), o] ∧ PtAt K H' p (exI mi z).1 ∧ PtAt K H' q (exI mi z).2 ∧ Fr40 (exI mi z), ?_, ?_⟩
    · have hh := hh.same s1
      refine ⟨_, rfl, _, _, _, _, rfl, rfl, hh.l, at1, rfl, _, rfl, ifD (fun c => ?_) (fun c => ?_)⟩
      · have m : mi = true := by
          cases mi
          · cases c
          · rfl
        subst m
        refine ⟨_, rfl, _, _, _, _, rfl, rfl, hp, at0, _, _, rfl, rfl, _, rfl, _, _, _, _, rfl, rfl, hp, at1, small rfl, fun t ht => ?_⟩
        exact ⟨s1.trans (same_new ht), t, rfl, tHere, tOver ht hq, g.m⟩
      · have m : mi = false := by
          cases mi
          · rfl
          · exact absurd rfl c
        subst m
        exact ⟨s1, p, rfl, hp, hq, g⟩
    rintro σ H2 ⟨s2, p, rfl, hp, hq, g⟩
    generalize ew : exI mi z = v at hp hq g
    have hh := hh.same s2
    have d9 := hh.d9
    have e9 := hh.e9
    refine ⟨_, rfl, _, rfl, _, _, _, _, rfl, rfl, hh.l, at2, small rfl, fun t ht => ?_⟩
    refine ⟨_, _, _, _, _, rfl, tOver ht hp, tHere, g.x0, g.x1, g.x2, by omega, fun t1 ht1 => ?_⟩
    have f1 := (same_new (o := HO.tup [.int d, .int 1]) ht).trans (same_new (o := HO.tup [.int (lowN (v.1.1 * 1 + d * v.1.2) (v.1.2 * 1)), .int (lowD (v.1.1 * 1 + d * v.1.2) (v.1.2 * 1))]) ht1)
    have h1 : PtAt K (upd (upd H2 t (.tup [.int d, .int 1])) t1 (.tup [.int (lowN (v.1.1 * 1 + d * v.1.2) (v.1.2 * 1)), .int (lowD (v.1.1 * 1 + d * v.1.2) (v.1.2 * 1))])) t1 (lowN (v.1.1 * 1 + d * v.1.2) (v.1.2 * 1), lowD (v.1.1 * 1 + d * v.1.2) (v.1.2 * 1)) := tHere
    generalize upd (upd H2 t (.tup [.int d, .int 1])) t1 (.tup [.int (lowN (v.1.1 * 1 + d * v.1.2) (v.1.2 * 1)), .int (lowD (v.1.1 * 1 + d * v.1.2) (v.1.2 * 1))]) = H3 at f1 h1 ⊢
    have hh := hh.same f1
    refine ⟨_, rfl, _, rfl, _, _, _, _, rfl, rfl, hh.l, at3, small rfl, fun t2 ht2 => ?_⟩
    refine ⟨_, _, _, _, _, rfl, tOver ht2 (tSame f1 hq), tHere, g.y0, g.y1, g.y2, by omega, fun t3 ht3 => ?_⟩
    refine ⟨small rfl, fun t4 ht4 => k _ _ ((((s2.trans f1).trans (same_new ht2)).trans (same_new ht3)).trans (same_new ht4)) ?_⟩
    refine ⟨t4, t1, t3, rfl, tHere, ?_, ?_⟩
    · show PtAt K _ t1 (exS d e (exI mi (exN r (x, y)))).1
      rw [ez, ew]
      exact tOver ht4 (tOver ht3 (tOver ht2 h1))
    · show PtAt K _ t3 (exS d e (exI mi (exN r (x, y)))).2
      rw [ez, ew]
      exact tOver ht4 tHere
theorem ok_law (T : Txt K mg) (TB : TxtB T base w) : FnOk P w K mg base CX0 15 T.a_law T.d_law ["script"] (spLawT K T.ts) := by
  refine T.F_law.ok sc_law (fun vs H Q E h => ?_) (fun cdv A outer s H vs Q E hr h => ?_)
  · obtain ⟨w0, ns, rfl, hS, hlen, tb, k⟩ := h
    rfl
  · obtain ⟨w0, ns, rfl, hS, hlen, tb, k⟩ := h
    refine ⟨_, (pss_cons (ps_set (i := 1) sc_law.nd rfl (Or.inr rfl) (pe_call (ok__law_stream T TB) (hr.mono (by omega)) rfl T.m__law_stream T.F__law_stream.kp T.b__law_stream .nil pass0 (pa_cons (pv 0) pa_nil)))
      (pss_cons (ps_set (i := 2) sc_law.nd rfl (Or.inr rfl) (pe_ix (r := rIxL K) ix_list (pe_lst (pa_cons pe_int (pa_cons pe_int (pa_cons pe_int pa_nil)))) (pe_call (ok__law_next T TB) (hr.mono (by omega)) rfl T.m__law_next T.F__law_next.kp T.b__law_next .nil pass0 (pa_cons (pv 1) (pa_cons pe_int pa_nil))) (fun _ _ => rfl)))
      (pss_cons (ps_set (i := 3) sc_law.nd rfl (Or.inr rfl) (pe_lst (pa_cons (pe_call (ok__law_next T TB) (hr.mono (by omega)) rfl T.m__law_next T.F__law_next.kp T.b__law_next .nil pass0 (pa_cons (pv 1) (pa_cons pe_int pa_nil))) (pa_cons (pe_call (ok__law_next T TB) (hr.mono (by omega)) rfl T.m__law_next T.F__law_next.kp T.b__law_next .nil pass0 (pa_cons (pv 1) (pa_cons pe_int pa_nil))) (pa_cons (pe_op op_sub (pe_call (ok__law_next T TB) (hr.mono (by omega)) rfl T.m__law_next T.F__law_next.kp T.b__law_next .nil pass0 (pa_cons (pv 1) (pa_cons pe_int pa_nil))) pe_int) (pa_cons (pe_op op_sub (pe_call (ok__law_next T TB) (hr.mono (by omega)) rfl T.m__law_next T.F__law_next.kp T.b__law_next .nil pass0 (pa_cons (pv 1) (pa_cons pe_int pa_nil))) pe_int) pa_nil))))))
      (pss_cons (ps_set (i := 4) sc_law.nd rfl (Or.inl rfl) (pe_call (ok__law_segment T TB) (hr.mono (by omega)) rfl T.m__law_segment T.F__law_segment.kp T.b__law_segment .nil pass0 (pa_cons (pv 1) (pa_cons (pv 2) pa_nil))))
      (pss_cons (ps_set (i := 5) sc_law.nd rfl (Or.inl rfl) (pe_call (ok__law_segment T TB) (hr.mono (by omega)) rfl T.m__law_segment T.F__law_segment.kp T.b__law_segment .nil pass0 (pa_cons (pv 1) (pa_cons (pv 2) pa_nil))))
      (pss_cons (ps_set (i := 6) sc_law.nd rfl (Or.inl rfl) (pe_call (ok_meeting T TB) (hr.mono (by omega)) rfl T.m_meeting T.F_meeting.kp T.b_meeting .nil pass0 (pa_cons (pv 4) (pa_cons (pv 5) pa_nil))))
      (pss_cons (ps_set (i := 7) sc_law.nd rfl (Or.inl rfl) (pv 6))
      (C8.pss_cut (ps_if (pt_cmpR op_eq (pe_ix (r := rIxT K) ix_tup (pv 6) pe_int (fun _ _ => rfl)) pe_str (nomark _))
        (pss_one (ps_set (i := 7) sc_law.nd rfl (Or.inl rfl) (pe_tup (pa_cons pe_str (pa_cons (pe_call (ok__law_image T TB) (hr.mono (by omega)) rfl T.m__law_image T.F__law_image.kp T.b__law_image .nil pass0 (pa_cons (pe_ix (r := rIxT K) ix_tup (pv 6) pe_int (fun _ _ => rfl)) (pa_cons (pv 3) pa_nil))) pa_nil)))))
        (pss_one (ps_if (pt_cmpR op_eq (pe_ix (r := rIxT K) ix_tup (pv 6) pe_int (fun _ _ => rfl)) pe_str (nomark _))
          (pss_one (ps_set (i := 7) sc_law.nd rfl (Or.inl rfl) (pe_op op_catA (pe_tup (pa_cons pe_str pa_nil)) (pe_call (ok__law_segment_image T TB) (hr.mono (by omega)) rfl T.m__law_segment_image T.F__law_segment_image.kp T.b__law_segment_image .nil pass0 (pa_cons (pe_slice sl_tupA (pv 6) (po_some pe_int) po_none) (pa_cons (pv 3) pa_nil))))))
          (pss_one (ps_if (pt_cmpR op_eq (pe_ix (r := rIxT K) ix_tup (pv 6) pe_int (fun _ _ => rfl)) pe_str (nomark _))
            (pss_one (ps_set (i := 7) sc_law.nd rfl (Or.inl rfl) (pe_call (ok__law_exact T TB) (hr.mono (by omega)) rfl T.m__law_exact T.F__law_exact.kp T.b__law_exact .nil pass0 (pa_cons (pe_ix (r := rIxT K) ix_tup (pv 6) pe_int (fun _ _ => rfl)) (pa_cons (pe_ix (r := rIxT K) ix_tup (pv 6) pe_int (fun _ _ => rfl)) (pa_cons (pv 3) pa_nil))))))
            pss_nil)))))
      (pss_cons (ps_if (pt_not (pt_val (pe_call (ok__law_equal T TB 4) (hr.mono (by omega)) rfl T.m__law_equal T.F__law_equal.kp T.b__law_equal .nil pass0 (pa_cons (pe_call (ok_meeting T TB) (hr.mono (by omega)) rfl T.m_meeting T.F_meeting.kp T.b_meeting .nil pass0 (pa_cons (pe_call (ok__law_segment_image T TB) (hr.mono (by omega)) rfl T.m__law_segment_image T.F__law_segment_image.kp T.b__law_segment_image .nil pass0 (pa_cons (pv 4) (pa_cons (pv 3) pa_nil))) (pa_cons (pe_call (ok__law_segment_image T TB) (hr.mono (by omega)) rfl T.m__law_segment_image T.F__law_segment_image.kp T.b__law_segment_image .nil pass0 (pa_cons (pv 5) (pa_cons (pv 3) pa_nil))) pa_nil))) (pa_cons (pv 7) pa_nil)))))
        (pss_one (ps_ret pe_bl))
        pss_nil)
      (pss_cons (ps_set (i := 8) sc_law.nd rfl (Or.inl rfl) (pe_call (ok__law_made T TB) (hr.mono (by omega)) rfl T.m__law_made T.F__law_made.kp T.b__law_made .nil pass0 (pa_cons (pe_call (ok__law_grown T TB) (hr.mono (by omega)) rfl T.m__law_grown T.F__law_grown.kp T.b__law_grown .nil pass0 (pa_cons (pv 1) (pa_cons (pv 2) (pa_cons pe_int pa_nil)))) pa_nil)))
      (pss_cons (ps_set (i := 9) sc_law.nd rfl (Or.inl rfl) (pe_call (ok__law_point T TB) (hr.mono (by omega)) rfl T.m__law_point T.F__law_point.kp T.b__law_point .nil pass0 (pa_cons (pv 1) (pa_cons (pv 2) pa_nil))))
      (pss_cons (ps_set (i := 10) sc_law.nd rfl (Or.inl rfl) (pe_call (ok_ring_of T TB) (hr.mono (by omega)) rfl T.m_ring_of T.F_ring_of.kp T.b_ring_of .nil pass0 (pa_cons (pe_callTy call_tuple_ofN (by rfl) T.n_tuple (by decide +kernel) (pa_cons (pe_lc (own := [("q", 14)]) (g := gName 14) (tt := tYes) rfl sc_law.nd (pi_tup (pv 8)) (blkOk_by (own := [("q", 14)]) (N := N_law) (sc := defScope s_law) (by decide +kernel)) (fun _ _ _ _ _ => pg_name (i := 14) sc_law.nd rfl (Or.inl rfl)) (fun _ _ _ _ _ => pts_nil) (fun _ _ _ _ _ => (pe_call (ok__law_image T TB) (hr.mono (by omega)) rfl T.m__law_image T.F__law_image.kp T.b__law_image .nil pass0 (pa_cons (pv 14) (pa_cons (pv 3) pa_nil))))) pa_nil)) pa_nil)))
      (pss_cons (ps_if (pt_cmpR op_ne (pe_call (ok_place_in T TB) (hr.mono (by omega)) rfl T.m_place_in T.F_place_in.kp T.b_place_in .nil pass0 (pa_cons (pe_call (ok__law_image T TB) (hr.mono (by omega)) rfl T.m__law_image T.F__law_image.kp T.b__law_image .nil pass0 (pa_cons (pv 9) (pa_cons (pv 3) pa_nil))) (pa_cons (pv 10) pa_nil))) (pe_call (ok_place_in T TB) (hr.mono (by omega)) rfl T.m_place_in T.F_place_in.kp T.b_place_in .nil pass0 (pa_cons (pv 9) (pa_cons (pv 8) pa_nil))) (nomark _))
        (pss_one (ps_ret pe_bl))
        pss_nil)
      (pss_cons (ps_set (i := 11) sc_law.nd rfl (Or.inl rfl) (pe_callTy call_tuple_ofN (by rfl) T.n_tuple (by decide +kernel) (pa_cons (pe_lc (own := [("k", 13)]) (g := gName 13) (tt := tYes) rfl sc_law.nd (pi_range1 rfl T.n_range (pa_cons (pe_op op_add pe_int (pe_call (ok__law_next T TB) (hr.mono (by omega)) rfl T.m__law_next T.F__law_next.kp T.b__law_next .nil pass0 (pa_cons (pv 1) (pa_cons pe_int pa_nil)))) pa_nil)) (blkOk_by (own := [("k", 13)]) (N := N_law) (sc := defScope s_law) (by decide +kernel)) (fun _ _ _ _ _ => pg_name (i := 13) sc_law.nd rfl (Or.inl rfl)) (fun _ _ _ _ _ => pts_nil) (fun _ _ _ _ _ => (pe_call (ok__law_point T TB) (hr.mono (by omega)) rfl T.m__law_point T.F__law_point.kp T.b__law_point .nil pass0 (pa_cons (pv 1) (pa_cons (pv 2) pa_nil))))) pa_nil)))
      (pss_cons (ps_set (i := 12) sc_law.nd rfl (Or.inl rfl) (pe_call (ok_hull_of T TB) (hr.mono (by omega)) rfl T.m_hull_of T.F_hull_of.kp T.b_hull_of .nil pass0 (pa_cons (pe_callTy call_tuple_ofN (by rfl) T.n_tuple (by decide +kernel) (pa_cons (pe_lc (own := [("q", 14)]) (g := gName 14) (tt := tYes) rfl sc_law.nd (pi_tup (pv 11)) (blkOk_by (own := [("q", 14)]) (N := N_law) (sc := defScope s_law) (by decide +kernel)) (fun _ _ _ _ _ => pg_name (i := 14) sc_law.nd rfl (Or.inl rfl)) (fun _ _ _ _ _ => pts_nil) (fun _ _ _ _ _ => (pe_call (ok__law_image T TB) (hr.mono (by omega)) rfl T.m__law_image T.F__law_image.kp T.b__law_image .nil pass0 (pa_cons (pv 14) (pa_cons (pv 3) pa_nil))))) pa_nil)) pa_nil)))
      (pss_one (ps_ret (pe_cmpR (op_eqD hr.units) (pe_callB (SrtT.cr_sortT hr.units) (by rfl) T.n_sorted (by decide +kernel) (pa_cons (pv 12) pa_nil)) (pe_callB (cr_sortP hr.units) (by rfl) T.n_sorted (by decide +kernel) (pa_cons (pe_lc (own := [("q", 14)]) (g := gName 14) (tt := tYes) rfl sc_law.nd (pi_tup (pe_call (ok_hull_of T TB) (hr.mono (by omega)) rfl T.m_hull_of T.F_hull_of.kp T.b_hull_of .nil pass0 (pa_cons (pv 11) pa_nil))) (blkOk_by (own := [("q", 14)]) (N := N_law) (sc := defScope s_law) (by decide +kernel)) (fun _ _ _ _ _ => pg_name (i := 14) sc_law.nd rfl (Or.inl rfl)) (fun _ _ _ _ _ => pts_nil) (fun _ _ _ _ _ => (pe_call (ok__law_image T TB) (hr.mono (by omega)) rfl T.m__law_image T.F__law_image.kp T.b__law_image .nil pass0 (pa_cons (pv 14) (pa_cons (pv 3) pa_nil))))) pa_nil)) (nomark _))))))))))))))))))), ?_⟩
    have fin := k
    refine ⟨_, rfl, _, ns, rfl, hS, fun H1 s b e1 n1 S1 => ?_⟩
    have tb := tb.same e1
    refine ⟨small rfl, fun L wL => ?_⟩
    have tb := tb.over (o := HO.lst [V.int 2, V.int 4, V.int 9]) wL
    refine ⟨_, rfl, _, _, _, rfl, by decide, by decide, S1.over wL, fun d H2 d0 d1 S2 B2 => ?_⟩
    have tb := tb.but B2 (S1.over wL).lst
    obtain ⟨v, hv, hF⟩ := atThree (a := V.int 2) (b := .int 4) (c := .int 9) d0 d1
    obtain ⟨far, rfl, hf, f9⟩ : ∃ far : Int, v = .int far ∧ Far far ∧ far ≤ 9 := by
      rcases hF with rfl | rfl | rfl
      · exact ⟨2, rfl, .inl rfl, by decide⟩
      · exact ⟨4, rfl, .inr (.inl rfl), by decide⟩
      · exact ⟨9, rfl, .inr (.inr (.inl rfl)), by decide⟩
    refine ⟨_, _, _, _, rfl, rfl, SqL.of (rBut B2 wL S1), hv, ?_⟩
    have hf' := hf.le
    clear hS hv hF e1 n1 S1 wL
    refine ⟨_, rfl, _, _, _, rfl, by decide, by decide, S2, fun r0 H3 r00 r01 S3 B3 => ?_⟩
    refine ⟨_, rfl, _, _, _, rfl, by decide, by decide, S3, fun m0 H4 m00 m01 S4 B4 => ?_⟩
    refine ⟨_, rfl, _, _, _, rfl, by decide, by decide, S4, fun dd0 H5 dd00 dd01 S5 B5 => ⟨_, _, rfl, rfl, ?_⟩⟩
    refine ⟨_, rfl, _, _, _, rfl, by decide, by decide, S5, fun ee0 H6 ee00 ee01 S6 B6 => ⟨_, _, rfl, rfl, small rfl, fun W wW => ?_⟩⟩
    have tb := (((tb.but B3 S2.lst).but B4 S3.lst).but B5 S4.lst).but B6 S5.lst
    obtain ⟨r, rfl⟩ : ∃ r : Nat, r0 = r := ⟨r0.toNat, by omega⟩
    obtain ⟨mi, rfl⟩ : ∃ mi : Bool, m0 = if mi = true then 1 else 0 := by
      rcases (show m0 = 0 ∨ m0 = 1 by omega) with rfl | rfl
      · exact ⟨false, rfl⟩
      · exact ⟨true, rfl⟩
    obtain ⟨dd, hdd⟩ : ∃ dd, dd0 - 900 = dd := ⟨_, rfl⟩
    obtain ⟨ee, hee⟩ : ∃ ee, ee0 - 900 = ee := ⟨_, rfl⟩
    dsimp only
    rw [hdd, hee]
    have nW : W ≠ s := S6.new1 wW
    have S7 := S6.over (o := HO.lst [V.int (r : Int), V.int (if mi = true then 1 else 0), V.int dd, V.int ee]) wW
    have tb := tb.over (o := HO.lst [V.int (r : Int), V.int (if mi = true then 1 else 0), V.int dd, V.int ee]) wW
    obtain ⟨HW, hW, how_⟩ : ∃ HW : List V, upd H6 W (.lst [V.int (r : Int), V.int (if mi = true then 1 else 0), V.int dd, V.int ee]) W = some (.lst HW) ∧ ∀ H, H W = some (.lst HW) → HowAt K H W r mi dd ee := ⟨_, upd_same, fun H h => ⟨SqL.of h, by omega, by omega, by omega⟩⟩
    generalize upd H6 W (.lst [V.int (r : Int), V.int (if mi = true then 1 else 0), V.int dd, V.int ee]) = H7 at S7 tb hW ⊢
    clear S2 S3 S4 S5 S6 B2 B3 B4 B5 B6 wW hdd hee
    have onI : ∀ x : Pt, In far x.1 x.2 → On (img r mi dd ee x).1 (img r mi dd ee x).2 := fun x h => (how_ H7 hW).on (by omega) h
    have IS := iso_img r mi dd ee
    refine ⟨_, rfl, _, rfl, _, _, _, rfl, hf, S7, fun g a c ax ay bx dy H8 S8 B8 hg ia ic => ?_⟩
    have hW := B8.get nW hW
    have tb := tb.but B8 S7.lst
    refine ⟨_, rfl, _, rfl, _, _, _, rfl, hf, S8, fun h e' f' ex ey fx fy H9 S9 B9 hh ie if_ => ?_⟩
    have hW := B9.get nW hW
    have tb := tb.but B9 S8.lst
    have hg := hg.but B9 S8
    clear S7 S8 B8 B9
    refine ⟨_, rfl, _, rfl, _, _, _, _, _, _, _, _, _, _, _, _, _, _, rfl, hg, hh, fun v H10 s10 hv => ?_⟩
    have hg := hg.same s10
    have hh := hh.same s10
    have S10 := S9.same s10
    have hW := s10.get hW
    have tb := tb.same s10
    clear s10 S9
    have MI := meet_image (a := (ax, ay)) (b := (bx, dy)) (c := (ex, ey)) (d := (fx, fy)) IS (exact_img r mi dd ee) hg.lt hh.lt
    have inE : ∀ P ∈ ends (ax, ay) (bx, dy) (ex, ey) (fx, fy), In far P.1 P.2 := fun P h => by
      rcases mem_ends.mp h with ⟨rfl, _⟩ | ⟨rfl, _⟩ | ⟨rfl, _⟩ | ⟨rfl, _⟩ <;> assumption
    refine ⟨_, rfl, ?_⟩
    refine ⟨fun σ' H' => ∃ u, σ' = [some (.ref w0), some (.ref s), some (.int far), some (.ref W), some (.ref g), some (.ref h), some v, some u, none, none, none, none, none, none, none] ∧ Same H10 H' ∧ MtAt K H' u (mt2 (img r mi dd ee (ax, ay)) (img r mi dd ee (bx, dy)) (img r mi dd ee (ex, ey)) (img r mi dd ee (fx, fy))), ?_, ?_⟩
    · rw [MI]
      rcases meet_cases (a := (ax, ay)) (b := (bx, dy)) (c := (ex, ey)) (d := (fx, fy)) hg.lt hh.lt with ⟨em, _⟩ | ⟨P, em, hP, _⟩ | ⟨P, R, em, hP, hR, _⟩ | ⟨_, _, sg, em⟩
      · rw [em] at hv ⊢
        have hv0 := hv
        obtain ⟨p, rfl, hp⟩ := hv
        refine ⟨_, rfl, _, _, _, _, rfl, rfl, hp, at0, rfl, _, rfl, ifD (fun e => absurd e (by decide)) (fun _ => ?_)⟩
        refine ⟨_, rfl, _, _, _, _, rfl, rfl, hp, at0, rfl, _, rfl, ifD (fun e => absurd e (by decide)) (fun _ => ?_)⟩
        refine ⟨_, rfl, _, _, _, _, rfl, rfl, hp, at0, rfl, _, rfl, ifD (fun e => absurd e (by decide)) (fun _ => ?_)⟩
        exact ⟨_, rfl, Same.refl _, hv0⟩
      · rw [em] at hv ⊢
        obtain ⟨p, q, rfl, hp, hq⟩ := hv
        refine ⟨_, rfl, _, _, _, _, rfl, rfl, hp, at0, rfl, _, rfl, ifD (fun _ => ?_) (fun e => absurd rfl e)⟩
        refine ⟨_, rfl, _, _, _, _, rfl, rfl, hp, at1, _, rfl, _, _, P, far, _, _, _, _, rfl, hq, how_ _ hW, inE P hP, by omega, fun q1 hq1 => ⟨small rfl, fun t ht => ?_⟩⟩
        exact ⟨_, rfl, (same_new hq1).trans (same_new ht), t, q1, rfl, tHere, tOver ht tHere⟩
      · rw [em] at hv ⊢
        obtain ⟨p, q, z, rfl, hp, hq, hz⟩ := hv
        refine ⟨_, rfl, _, _, _, _, rfl, rfl, hp, at0, rfl, _, rfl, ifD (fun e => absurd e (by decide)) (fun _ => ?_)⟩
        refine ⟨_, rfl, _, _, _, _, rfl, rfl, hp, at0, rfl, _, rfl, ifD (fun _ => ?_) (fun e => absurd rfl e)⟩
        refine ⟨small rfl, fun t1 w1 => ?_⟩
        have f1 := same_new (o := HO.tup [V.str "overlap"]) w1
        refine ⟨_, rfl, _, rfl, _, _, rfl, tSame f1 hp, fun z => absurd (show (1 : Nat) = 0 from z.1) (by decide), fun _ t2 w2 => ?_⟩
        have f2 := same_new (o := HO.tup [V.ref q, .ref z]) w2
        refine ⟨_, rfl, _, _, _, _, P, R, far, _, _, _, _, rfl, tHere, tSame f2 (tSame f1 hq), tSame f2 (tSame f1 hz), (how_ _ hW).same (f1.trans f2), inE P hP, inE R hR, by omega, fun t3 p3 q3 H11 s11 h3 hp3 hq3 => ?_⟩
        have f3 := (f1.trans f2).trans s11
        refine ⟨_, _, _, _, rfl, rfl, tSame (f2.trans s11) (tHere (xs := [V.str "overlap"])), h3, small rfl, fun z => (by cases z), fun _ z => (by cases z), fun _ _ t4 w4 => ?_⟩
        exact ⟨_, rfl, f3.trans (same_new w4), t4, p3, q3, rfl, tHere, tOver w4 hp3, tOver w4 hq3⟩
      · rw [em] at hv ⊢
        unfold cross at hv ⊢
        dsimp only at hv ⊢
        obtain ⟨p, q, z, rfl, hp, hq, hz⟩ := hv
        have t1 : (tn (ex, ey) (fx, fy) (ax, ay)).natAbs ≤ 2 ^ 23 := turn_le hh.oa hh.oc hg.oa
        have t2 : (tn (ex, ey) (fx, fy) (bx, dy)).natAbs ≤ 2 ^ 23 := turn_le hh.oa hh.oc hg.oc
        have nw : tn (ex, ey) (fx, fy) (ax, ay) - tn (ex, ey) (fx, fy) (bx, dy) ≠ 0 := by
          have := neg_signs sg
          omega
        clear MI em sg
        generalize tn (ex, ey) (fx, fy) (ax, ay) = be at *
        generalize tn (ex, ey) (fx, fy) (bx, dy) = af at *
        have L1 := low_ok (n := cutN ax bx be af) nw
        have L2 := low_ok (n := cutN ay dy be af) nw
        have oa0 : ax.natAbs ≤ 2 ^ 11 := by have z := hg.oa; unfold On at z; omega
        have oa1 : ay.natAbs ≤ 2 ^ 11 := by have z := hg.oa; unfold On at z; omega
        have bw : (be - af).natAbs ≤ 2 ^ 24 := sub_le t1 t2
        have v := hg.oc.d hg.oa
        have c0 : (cutN ax bx be af).natAbs ≤ 2 ^ 36 := add_le (x := 35) (mul_le (x := 11) (y := 24) oa0 bw) (pow_up (mul_le (x := 23) (y := 11) t1 v.1))
        have c1 : (cutN ay dy be af).natAbs ≤ 2 ^ 36 := add_le (x := 35) (mul_le (x := 11) (y := 24) oa1 bw) (pow_up (mul_le (x := 23) (y := 11) t1 v.2))
        have P1 := L1.pos
        have P2 := L2.pos
        refine ⟨_, rfl, _, _, _, _, rfl, rfl, hp, at0, rfl, _, rfl, ifD (fun e => absurd e (by decide)) (fun _ => ?_)⟩
        refine ⟨_, rfl, _, _, _, _, rfl, rfl, hp, at0, rfl, _, rfl, ifD (fun e => absurd e (by decide)) (fun _ => ?_)⟩
        refine ⟨_, rfl, _, _, _, _, rfl, rfl, hp, at0, rfl, _, rfl, ifD (fun _ => ?_) (fun e => absurd rfl e)⟩
        refine ⟨_, rfl, _, _, _, _, rfl, rfl, hp, at1, _, rfl, _, _, _, _, rfl, rfl, hp, at2, _, rfl, _, _, _, _, _, _, _, _, _, rfl, hq, hz, how_ _ hW, ⟨by dsimp only; omega, pow_up (Nat.le_trans L1.leN c0), pow_up (Nat.le_trans L1.leD bw), by dsimp only; omega, pow_up (Nat.le_trans L2.leN c1), pow_up (Nat.le_trans L2.leD bw)⟩, fun u H11 s11 hu => ?_⟩
        exact ⟨_, rfl, s11, hu⟩
    rintro σ' H11 ⟨u, rfl, s11, hu⟩
    have hg := hg.same s11
    have hh := hh.same s11
    have S11 := S10.same s11
    have hW := s11.get hW
    have tb := tb.same s11
    clear S10 s11 hv MI inE
    refine ⟨_, rfl, _, rfl, _, _, _, _, (ax, ay), (bx, dy), far, _, _, _, _, rfl, hg.g, hg.a, hg.c, how_ _ hW, ia, ic, by omega, fun t1 p1 q1 H12 s12 h1 hp1 hq1 => ?_⟩
    have hh := hh.same s12
    have hW := s12.get hW
    refine ⟨_, rfl, _, rfl, _, _, _, _, (ex, ey), (fx, fy), far, _, _, _, _, rfl, hh.g, hh.a, hh.c, how_ _ hW, ie, if_, by omega, fun t2 p2 q2 H13 s13 h2 hp2 hq2 => ?_⟩
    have hW := s13.get hW
    have ne1 : ((ax, ay) : Pt) ≠ (bx, dy) := fun e => by
      have := hg.lt
      injection e with e1 e2
      subst e1 e2
      rw [show ltP ax ay ax ay = false from lt_irr (ax, ay)] at this
      cases this
    have ne2 : ((ex, ey) : Pt) ≠ (fx, fy) := fun e => by
      have := hh.lt
      injection e with e1 e2
      subst e1 e2
      rw [show ltP ex ey ex ey = false from lt_irr (ex, ey)] at this
      cases this
    have g1 := (seg_image h1 hp1 hq1 (onI _ ia) (onI _ ic) (IS.ne ne1)).same s13
    have g2 := seg_image h2 hp2 hq2 (onI _ ie) (onI _ if_) (IS.ne ne2)
    refine ⟨_, _, _, _, _, _, _, _, _, _, _, _, _, _, rfl, g1, g2, fun v2 H14 s14 hv2 => ?_⟩
    have sA := (s12.trans s13).trans s14
    refine ⟨_, rfl, _, _, rfl, MtAt.dq hv2 (hu.same sA), fun H15 s15 => ⟨_, rfl, ifFa rfl ?_⟩⟩
    have sB := sA.trans s15
    have S15 := S11.same sB
    have tb := tb.same sB
    have hW := (s14.trans s15).get hW
    clear hv2 hu s12 s13 s14 s15 sA sB g1 g2 S11 h1 h2 hp1 hp2 hq1 hq2 hg hh ia ic ie if_ ne1 ne2
    refine ⟨_, rfl, _, rfl, _, _, _, 10, rfl, hf', by decide, by decide, S15, fun a zs H16 hn ha iz hs l3 lm S16 B16 => ?_⟩
    have hW := B16.get nW hW
    have tb := tb.but B16 S15.lst
    refine ⟨_, _, rfl, hn, ha, by omega, by omega, fun c ws H17 hc hm s17 => ?_⟩
    have hW := s17.get hW
    have tb := tb.same s17
    have S17 := S16.same s17
    have lw := hm.len
    have ok := hm.ring l3 (by omega) hs
    have iw : ∀ z ∈ ws, In far z.2.1 z.2.2 := fun z m => iz z (hm.mem z m)
    have l3w : 3 ≤ ws.length := ok.l3
    have lmw : ws.length ≤ 40 := ok.lm
    clear hm ha hn hs S15 S16 B16 s17 iz lw l3 lm
    refine ⟨_, rfl, _, rfl, _, _, _, rfl, by omega, by omega, S17, fun p px py H18 ip S18 B18 hp => ?_⟩
    have hc := hc.but B18 S17
    have hW := B18.get nW hW
    have tb := tb.but B18 S17.lst
    clear S17 B18
    refine ⟨_, rfl, _, rfl, ⟨_, hc.t⟩, fun D hD => ?_⟩
    refine walk_any (walk_tup (K := K) (a := c) (xs := refs ws)) (fun i H' => Same H18 H' ∧ ∃ ys : List Zp, H' D = some (.lst (refs ys)) ∧ ys.length = i ∧ crd ys = (crd (ws.take i)).map (img r mi dd ee) ∧ Pts K H' ys) ⟨same_new hD, [], upd_same, rfl, rfl, Pts.nil⟩ (fun i H' _ h => tSame h.1 hc.t) ?_ ?_
    · rintro i x Ha Hb hi ⟨s2, ys, hE, ly, ey, hys⟩ ⟨rfl, hx⟩
      rw [List.getElem?_map] at hx
      obtain ⟨z, hz, rfl⟩ := Option.map_eq_some_iff.mp hx
      have mz := List.mem_of_getElem? hz
      refine ⟨rfl, yesI ?_⟩
      refine iteT ?_
      refine ⟨_, rfl, _, rfl, z.1, W, z.2, far, r, mi, dd, ee, rfl, tSame s2 (hc.p z mz), how_ _ (s2.get hW), iw z mz, by omega, fun q1 hq1 => ?_⟩
      have f1 := same_new (o := HO.tup [.int (img r mi dd ee z.2).1, .int (img r mi dd ee z.2).2]) hq1
      refine ⟨_, f1.get hE, by rw [refs_len, ly]; exact line_of (by have := (List.getElem?_eq_some_iff.mp hz).1; omega), (s2.trans f1).put hD, ys ++ [(q1, img r mi dd ee z.2)], by rw [upd_same, refs_app]; rfl, by rw [List.length_append, ly]; rfl, ?_, ((hys.same f1).at ⟨_, f1.get hE⟩).app (.one (tAt ⟨_, f1.get hE⟩ tHere))⟩
      rw [List.take_succ, hz, crd_app, crd_app, List.map_append, ey]
      rfl
    
    rintro H19 ⟨s19, ys, hE, ly, ey, hys⟩
    rw [refs_len] at ly ey
    rw [List.take_length] at ey
    have oy : ∀ y ∈ ys, On y.2.1 y.2.2 := fun y m => by
      have m2 : y.2 ∈ (crd ws).map (img r mi dd ee) := by rw [← ey]; exact mem_crd m
      obtain ⟨x, mx, ex⟩ := List.mem_map.mp m2
      obtain ⟨w', mw, rfl⟩ := List.mem_map.mp mx
      rw [← ex]
      exact onI _ (iw w' mw)
    refine ⟨_, _, rfl, SqL.of hE, fun t o ht ho => ?_⟩
    have f20 := same_new (o := HO.frz o (.tup (refs ys))) ht
    have sy := simp_image IS ey ok.simp (fun e => by rw [e] at l3w; exact absurd l3w (by decide))
    refine ⟨_, ys, rfl, TN.here ho, ⟨(TN.here ho).t, hys.over ht, oy⟩, by omega, by omega, sy, (tb.same s19).same f20, fun c2 vs H20 hc2 hm2 s20 => ?_⟩
    have sA := (s19.trans f20).trans s20
    have hc := hc.same sA
    have hW := sA.get hW
    have tb := tb.same sA
    have S20 := S18.same sA
    have hp := tSame sA hp
    have okv := hm2.ring (by omega) (by omega) sy
    have pe : placeS (img r mi dd ee (px, py)) vs = placeS (px, py) ws := place_image (keeps_img r mi dd ee) ey hm2 (px, py)
    clear s19 hE hys oy ht ho f20 sy hm2 s20 sA S18 hD
    refine ⟨_, rfl, _, rfl, p, W, (px, py), far, r, mi, dd, ee, rfl, hp, how_ _ hW, ip, by omega, fun q hq => ?_⟩
    have f21 := same_new (o := HO.tup [.int (img r mi dd ee (px, py)).1, .int (img r mi dd ee (px, py)).2]) hq
    refine ⟨_, rfl, q, c2, (img r mi dd ee (px, py)).1, (img r mi dd ee (px, py)).2, vs, rfl, tHere, onI _ ip, hc2.same f21, okv, tb.same f21, fun H21 s21 => ?_⟩
    have f22 := f21.trans s21
    refine ⟨_, rfl, _, rfl, p, c, px, py, ws, rfl, tSame f22 hp, ip.on (by omega), hc.same f22, ok, tb.same f22, fun H22 s22 => ?_⟩
    have f23 := f22.trans s22
    refine ⟨rfl, _, rfl, ifND (fun ne => absurd (congrArg V.str pe) ne) (fun _ => ?_)⟩
    have hW := f23.get hW
    have tb := tb.same f23
    have S22 := S20.same f23
    clear pe okv hc2 f21 f22 f23 s21 s22 S20 hp hc hq ok iw l3w lmw ly ey ip
    refine ⟨_, rfl, _, _, _, rfl, by decide, by decide, S22, fun n H23 n0 n1 S23 B23 => ⟨_, _, rfl, rfl, _, rfl, by omega, by omega, fun D2 hD2 => ?_⟩⟩
    have hW := B23.get nW hW
    have tb := tb.but B23 S22.lst
    have nD : D2 ≠ s := S23.new1 hD2
    have mD : D2 ≠ b := S23.new2 hD2
    have E0 : But s H23 H23 := But.refl
    refine walk_any (walk_range (lo := 0) (n := (1 + n).toNat)) (fun i H' => ∃ zs : List Zp, Strm H' s b ∧ But s H23 H' ∧ H' D2 = some (.lst (refs zs)) ∧ zs.length = i ∧ Pts K H' zs ∧ ∀ z ∈ zs, In far z.2.1 z.2.2) ⟨[], S23.over hD2, E0.then_new hD2, upd_same, rfl, Pts.nil, (fun z h => by cases h)⟩ (fun i H' _ h => trivial) ?_ ?_
    · rintro i x Ha Hb hi ⟨zs, S1, e1, hD1, hl, hp, hin⟩ ⟨rfl, rfl⟩
      refine ⟨rfl, yesI ?_⟩
      refine iteT ?_
      refine ⟨_, rfl, _, rfl, _, _, _, rfl, by omega, by omega, S1, fun a1 x1 y1 H3 i1 S3 B3 hp3 => ?_⟩
      have hD3 := B3.get nD hD1
      refine ⟨_, hD3, by rw [List.length_map, hl]; exact line_of (by omega), zs ++ [(a1, x1, y1)], S3.at nD mD, E0.putN hD2 (e1.trans B3), by rw [upd_same, refs_app]; rfl, by rw [List.length_append, hl]; rfl, ((hp.but B3 S1).at ⟨_, hD3⟩).app (.one (tAt ⟨_, hD3⟩ hp3)), fun z h => ?_⟩
      rcases List.mem_append.mp h with h | h
      · exact hin z h
      · rw [List.mem_singleton] at h; subst h; exact i1
    rintro H24 ⟨zs, S24, B24, hD24, hl, hp24, iz⟩
    have hW := B24.get nW hW
    have tb := tb.but B24 S23.lst
    refine ⟨_, _, rfl, SqL.of hD24, fun t2 o2 ht2 ho2 => ?_⟩
    have f25 := same_new (o := HO.frz o2 (.tup (refs zs))) ht2
    have hP : LnAt K (upd H24 t2 (.frz o2 (.tup (refs zs)))) t2 zs := ⟨(TN.here ho2).t, hp24.over ht2, fun z m => (iz z m).on (by omega)⟩
    have hW := f25.get hW
    have tb := tb.same f25
    generalize upd H24 t2 (.frz o2 (.tup (refs zs))) = H25 at hP hW tb ⊢
    clear f25 ht2 ho2 hD24 hp24 B24 S24 S23 B23 S22 hD2 nD mD E0
    refine ⟨_, rfl, _, rfl, ⟨_, hP.t⟩, fun D hD => ?_⟩
    refine walk_any (walk_tup (K := K) (a := t2) (xs := refs zs)) (fun i H' => Same H25 H' ∧ ∃ ys : List Zp, H' D = some (.lst (refs ys)) ∧ ys.length = i ∧ crd ys = (crd (zs.take i)).map (img r mi dd ee) ∧ Pts K H' ys) ⟨same_new hD, [], upd_same, rfl, rfl, Pts.nil⟩ (fun i H' _ h => tSame h.1 hP.t) ?_ ?_
    · rintro i x Ha Hb hi ⟨s2, ys, hE, ly, ey, hys⟩ ⟨rfl, hx⟩
      rw [List.getElem?_map] at hx
      obtain ⟨z, hz, rfl⟩ := Option.map_eq_some_iff.mp hx
      have mz := List.mem_of_getElem? hz
      refine ⟨rfl, yesI ?_⟩
      refine iteT ?_
      refine ⟨_, rfl, _, rfl, z.1, W, z.2, far, r, mi, dd, ee, rfl, tSame s2 (hP.p z mz), how_ _ (s2.get hW), iz z mz, by omega, fun q1 hq1 => ?_⟩
      have f1 := same_new (o := HO.tup [.int (img r mi dd ee z.2).1, .int (img r mi dd ee z.2).2]) hq1
      refine ⟨_, f1.get hE, by rw [refs_len, ly]; exact line_of (by have := (List.getElem?_eq_some_iff.mp hz).1; omega), (s2.trans f1).put hD, ys ++ [(q1, img r mi dd ee z.2)], by rw [upd_same, refs_app]; rfl, by rw [List.length_append, ly]; rfl, ?_, ((hys.same f1).at ⟨_, f1.get hE⟩).app (.one (tAt ⟨_, f1.get hE⟩ tHere))⟩
      rw [List.take_succ, hz, crd_app, crd_app, List.map_append, ey]
      rfl
    
    rintro H26 ⟨s26, ys, hE, ly, ey, hys⟩
    rw [refs_len] at ly ey
    rw [List.take_length] at ey
    have oy : ∀ y ∈ ys, On y.2.1 y.2.2 := fun y m => by
      have m2 : y.2 ∈ (crd zs).map (img r mi dd ee) := by rw [← ey]; exact mem_crd m
      obtain ⟨x, mx, ex⟩ := List.mem_map.mp m2
      obtain ⟨w', mw, rfl⟩ := List.mem_map.mp mx
      rw [← ex]
      exact onI _ (iz w' mw)
    refine ⟨_, _, rfl, SqL.of hE, fun t o ht ho => ?_⟩
    have f27 := same_new (o := HO.frz o (.tup (refs ys))) ht
    refine ⟨_, ys, rfl, ⟨(TN.here ho).t, hys.over ht, oy⟩, by omega, by omega, (tb.same s26).same f27, fun c3 us H27 hc3 W3 s27 => ?_⟩
    have sA := (s26.trans f27).trans s27
    have hP := hP.same sA
    have hW := sA.get hW
    have tb := tb.same sA
    have few3 := W3.few
    rw [List.length_map, List.length_map] at few3
    clear s26 hE hys oy ht ho f27 s27 sA hD
    refine ⟨_, rfl, _, us, rfl, hc3.t, by omega, fun b hb => hc3.p b hb, fun L1 hL1 => ?_⟩
    have f28 := same_new (o := HO.lst (refs (srt us))) hL1
    have hL1' : SqL K (upd H27 L1 (.lst (refs (srt us)))) L1 (refs (srt us)) := lHere
    have tb := tb.same f28
    have hP := hP.same f28
    have hW := f28.get hW
    have p1 : Pts K (upd H27 L1 (.lst (refs (srt us)))) (srt us) := crd_pts (hc3.same f28).p fun w m => (sortP_perm us).mem_iff.mp m
    refine ⟨_, rfl, _, zs, rfl, hP, by omega, by omega, tb, fun c4 hs H29 hc4 W4 s29 => ?_⟩
    have hW := s29.get hW
    have hL2 := s29.seq hL1'
    have p2 := p1.same s29
    have ih : ∀ z ∈ hs, In far z.2.1 z.2.2 := fun z m => by
      obtain ⟨y, my, ey⟩ := List.mem_map.mp (W4.sub z.2 (mem_crd m))
      rw [← ey]
      exact iz y my
    have few4 := W4.few
    rw [List.length_map, List.length_map] at few4
    refine ⟨_, rfl, ⟨_, hc4.t⟩, fun D hD => ?_⟩
    refine walk_any (walk_tup (K := K) (a := c4) (xs := refs hs)) (fun i H' => Same H29 H' ∧ ∃ ys : List Zp, H' D = some (.lst (refs ys)) ∧ ys.length = i ∧ crd ys = (crd (hs.take i)).map (img r mi dd ee) ∧ Pts K H' ys) ⟨same_new hD, [], upd_same, rfl, rfl, Pts.nil⟩ (fun i H' _ h => tSame h.1 hc4.t) ?_ ?_
    · rintro i x Ha Hb hi ⟨s2, ys, hE, ly, ey, hys⟩ ⟨rfl, hx⟩
      rw [List.getElem?_map] at hx
      obtain ⟨z, hz, rfl⟩ := Option.map_eq_some_iff.mp hx
      have mz := List.mem_of_getElem? hz
      refine ⟨rfl, yesI ?_⟩
      refine iteT ?_
      refine ⟨_, rfl, _, rfl, z.1, W, z.2, far, r, mi, dd, ee, rfl, tSame s2 (hc4.p z mz), how_ _ (s2.get hW), ih z mz, by omega, fun q1 hq1 => ?_⟩
      have f1 := same_new (o := HO.tup [.int (img r mi dd ee z.2).1, .int (img r mi dd ee z.2).2]) hq1
      refine ⟨_, f1.get hE, by rw [refs_len, ly]; exact line_of (by have := (List.getElem?_eq_some_iff.mp hz).1; omega), (s2.trans f1).put hD, ys ++ [(q1, img r mi dd ee z.2)], by rw [upd_same, refs_app]; rfl, by rw [List.length_append, ly]; rfl, ?_, ((hys.same f1).at ⟨_, f1.get hE⟩).app (.one (tAt ⟨_, f1.get hE⟩ tHere))⟩
      rw [List.take_succ, hz, crd_app, crd_app, List.map_append, ey]
      rfl
    
    rintro H30 ⟨s30, qs, hE, lq, eq, hqs⟩
    rw [refs_len] at lq eq
    rw [List.take_length] at eq
    refine ⟨_, qs, rfl, SqL.of hE, fun b hb => hqs b hb, fun L2 hL2' => ?_⟩
    have f31 := same_new (o := HO.lst (refs (srt qs))) hL2'
    have p3 : Pts K H30 (srt qs) := crd_pts hqs fun w m => (sortP_perm qs).mem_iff.mp m
    refine ⟨.list (ptsD (srt us)), .list (ptsD (srt qs)), .lst (f31.seq (s30.seq hL2)) (dp_pts ((p2.same s30).same f31)), .lst lHere (dp_pts (p3.same f31)), list_shaped _, list_shaped _, ?_⟩
    rw [eqvL, decide_eq_true (hull_image IS W4 ey W3 eq)]
    exact fin _
end
theorem all_mk {l : PySem.W.OpenLaw} {w : World} {K : PySem.W.Frag} {h : Heap} {mg : Str → Option Value} {fa : Addr} {q : Program} (X : K.In h) (G : h.Ns mainGlobals mg) (hfa : mg "law" = some (.ref fa)) (TQ : TabsOf q K h)
    {od_is_whole an_is_whole : Option Addr} {sl_is_whole : Array (Option Value)} {oc_is_whole kV_is_whole dc_is_whole pm_is_whole cd_is_whole ct_is_whole : Value} {f_is_whole : Addr}
    (a_is_whole : PySem.W.nsIn K mainGlobals "is_whole" = some (some (.ref f_is_whole)))
    (l_is_whole : K.lookup f_is_whole = some ⟨oc_is_whole, od_is_whole, .func (PySem.W.fnOf "is_whole" "is_whole" (defArgs s_is_whole) (defBody s_is_whole) (defScope s_is_whole) .none kV_is_whole dc_is_whole pm_is_whole an_is_whole cd_is_whole ct_is_whole), sl_is_whole⟩)
    (c_is_whole : PySem.W.codeIn K cd_is_whole "is_whole" = true) (k_is_whole : PySem.W.keepIn K (.ref f_is_whole) = true)
    {od_is_pair an_is_pair : Option Addr} {sl_is_pair : Array (Option Value)} {oc_is_pair kV_is_pair dc_is_pair pm_is_pair cd_is_pair ct_is_pair : Value} {f_is_pair : Addr}
    (a_is_pair : PySem.W.nsIn K mainGlobals "is_pair" = some (some (.ref f_is_pair)))
    (l_is_pair : K.lookup f_is_pair = some ⟨oc_is_pair, od_is_pair, .func (PySem.W.fnOf "is_pair" "is_pair" (defArgs s_is_pair) (defBody s_is_pair) (defScope s_is_pair) .none kV_is_pair dc_is_pair pm_is_pair an_is_pair cd_is_pair ct_is_pair), sl_is_pair⟩)
    (c_is_pair : PySem.W.codeIn K cd_is_pair "is_pair" = true) (k_is_pair : PySem.W.keepIn K (.ref f_is_pair) = true)
    {od_need an_need : Option Addr} {sl_need : Array (Option Value)} {oc_need kV_need dc_need pm_need cd_need ct_need : Value} {f_need : Addr}
    (a_need : PySem.W.nsIn K mainGlobals "need" = some (some (.ref f_need)))
    (l_need : K.lookup f_need = some ⟨oc_need, od_need, .func (PySem.W.fnOf "need" "need" (defArgs s_need) (defBody s_need) (defScope s_need) .none kV_need dc_need pm_need an_need cd_need ct_need), sl_need⟩)
    (c_need : PySem.W.codeIn K cd_need "need" = true) (k_need : PySem.W.keepIn K (.ref f_need) = true)
    {od_lowest an_lowest : Option Addr} {sl_lowest : Array (Option Value)} {oc_lowest kV_lowest dc_lowest pm_lowest cd_lowest ct_lowest : Value} {f_lowest : Addr}
    (a_lowest : PySem.W.nsIn K mainGlobals "lowest" = some (some (.ref f_lowest)))
    (l_lowest : K.lookup f_lowest = some ⟨oc_lowest, od_lowest, .func (PySem.W.fnOf "lowest" "lowest" (defArgs s_lowest) (defBody s_lowest) (defScope s_lowest) .none kV_lowest dc_lowest pm_lowest an_lowest cd_lowest ct_lowest), sl_lowest⟩)
    (c_lowest : PySem.W.codeIn K cd_lowest "lowest" = true) (k_lowest : PySem.W.keepIn K (.ref f_lowest) = true)
    {od_is_coordinate an_is_coordinate : Option Addr} {sl_is_coordinate : Array (Option Value)} {oc_is_coordinate kV_is_coordinate dc_is_coordinate pm_is_coordinate cd_is_coordinate ct_is_coordinate : Value} {f_is_coordinate : Addr}
    (a_is_coordinate : PySem.W.nsIn K mainGlobals "is_coordinate" = some (some (.ref f_is_coordinate)))
    (l_is_coordinate : K.lookup f_is_coordinate = some ⟨oc_is_coordinate, od_is_coordinate, .func (PySem.W.fnOf "is_coordinate" "is_coordinate" (defArgs s_is_coordinate) (defBody s_is_coordinate) (defScope s_is_coordinate) .none kV_is_coordinate dc_is_coordinate pm_is_coordinate an_is_coordinate cd_is_coordinate ct_is_coordinate), sl_is_coordinate⟩)
    (c_is_coordinate : PySem.W.codeIn K cd_is_coordinate "is_coordinate" = true) (k_is_coordinate : PySem.W.keepIn K (.ref f_is_coordinate) = true)
    {od_is_point an_is_point : Option Addr} {sl_is_point : Array (Option Value)} {oc_is_point kV_is_point dc_is_point pm_is_point cd_is_point ct_is_point : Value} {f_is_point : Addr}
    (a_is_point : PySem.W.nsIn K mainGlobals "is_point" = some (some (.ref f_is_point)))
    (l_is_point : K.lookup f_is_point = some ⟨oc_is_point, od_is_point, .func (PySem.W.fnOf "is_point" "is_point" (defArgs s_is_point) (defBody s_is_point) (defScope s_is_point) .none kV_is_point dc_is_point pm_is_point an_is_point cd_is_point ct_is_point), sl_is_point⟩)
    (c_is_point : PySem.W.codeIn K cd_is_point "is_point" = true) (k_is_point : PySem.W.keepIn K (.ref f_is_point) = true)
    {od_is_segment an_is_segment : Option Addr} {sl_is_segment : Array (Option Value)} {oc_is_segment kV_is_segment dc_is_segment pm_is_segment cd_is_segment ct_is_segment : Value} {f_is_segment : Addr}
    (a_is_segment : PySem.W.nsIn K mainGlobals "is_segment" = some (some (.ref f_is_segment)))
    (l_is_segment : K.lookup f_is_segment = some ⟨oc_is_segment, od_is_segment, .func (PySem.W.fnOf "is_segment" "is_segment" (defArgs s_is_segment) (defBody s_is_segment) (defScope s_is_segment) .none kV_is_segment dc_is_segment pm_is_segment an_is_segment cd_is_segment ct_is_segment), sl_is_segment⟩)
    (c_is_segment : PySem.W.codeIn K cd_is_segment "is_segment" = true) (k_is_segment : PySem.W.keepIn K (.ref f_is_segment) = true)
    {od_are_points an_are_points : Option Addr} {sl_are_points : Array (Option Value)} {oc_are_points kV_are_points dc_are_points pm_are_points cd_are_points ct_are_points : Value} {f_are_points : Addr}
    (a_are_points : PySem.W.nsIn K mainGlobals "are_points" = some (some (.ref f_are_points)))
    (l_are_points : K.lookup f_are_points = some ⟨oc_are_points, od_are_points, .func (PySem.W.fnOf "are_points" "are_points" (defArgs s_are_points) (defBody s_are_points) (defScope s_are_points) .none kV_are_points dc_are_points pm_are_points an_are_points cd_are_points ct_are_points), sl_are_points⟩)
    (c_are_points : PySem.W.codeIn K cd_are_points "are_points" = true) (k_are_points : PySem.W.keepIn K (.ref f_are_points) = true)
    {od_joining an_joining : Option Addr} {sl_joining : Array (Option Value)} {oc_joining kV_joining dc_joining pm_joining cd_joining ct_joining : Value} {f_joining : Addr}
    (a_joining : PySem.W.nsIn K mainGlobals "joining" = some (some (.ref f_joining)))
    (l_joining : K.lookup f_joining = some ⟨oc_joining, od_joining, .func (PySem.W.fnOf "joining" "joining" (defArgs s_joining) (defBody s_joining) (defScope s_joining) .none kV_joining dc_joining pm_joining an_joining cd_joining ct_joining), sl_joining⟩)
    (c_joining : PySem.W.codeIn K cd_joining "joining" = true) (k_joining : PySem.W.keepIn K (.ref f_joining) = true)
    {od_edges_along an_edges_along : Option Addr} {sl_edges_along : Array (Option Value)} {oc_edges_along kV_edges_along dc_edges_along pm_edges_along cd_edges_along ct_edges_along : Value} {f_edges_along : Addr}
    (a_edges_along : PySem.W.nsIn K mainGlobals "edges_along" = some (some (.ref f_edges_along)))
    (l_edges_along : K.lookup f_edges_along = some ⟨oc_edges_along, od_edges_along, .func (PySem.W.fnOf "edges_along" "edges_along" (defArgs s_edges_along) (defBody s_edges_along) (defScope s_edges_along) .none kV_edges_along dc_edges_along pm_edges_along an_edges_along cd_edges_along ct_edges_along), sl_edges_along⟩)
    (c_edges_along : PySem.W.codeIn K cd_edges_along "edges_along" = true) (k_edges_along : PySem.W.keepIn K (.ref f_edges_along) = true)
    {od_turn_of an_turn_of : Option Addr} {sl_turn_of : Array (Option Value)} {oc_turn_of kV_turn_of dc_turn_of pm_turn_of cd_turn_of ct_turn_of : Value} {f_turn_of : Addr}
    (a_turn_of : PySem.W.nsIn K mainGlobals "turn_of" = some (some (.ref f_turn_of)))
    (l_turn_of : K.lookup f_turn_of = some ⟨oc_turn_of, od_turn_of, .func (PySem.W.fnOf "turn_of" "turn_of" (defArgs s_turn_of) (defBody s_turn_of) (defScope s_turn_of) .none kV_turn_of dc_turn_of pm_turn_of an_turn_of cd_turn_of ct_turn_of), sl_turn_of⟩)
    (c_turn_of : PySem.W.codeIn K cd_turn_of "turn_of" = true) (k_turn_of : PySem.W.keepIn K (.ref f_turn_of) = true)
    {od_is_on an_is_on : Option Addr} {sl_is_on : Array (Option Value)} {oc_is_on kV_is_on dc_is_on pm_is_on cd_is_on ct_is_on : Value} {f_is_on : Addr}
    (a_is_on : PySem.W.nsIn K mainGlobals "is_on" = some (some (.ref f_is_on)))
    (l_is_on : K.lookup f_is_on = some ⟨oc_is_on, od_is_on, .func (PySem.W.fnOf "is_on" "is_on" (defArgs s_is_on) (defBody s_is_on) (defScope s_is_on) .none kV_is_on dc_is_on pm_is_on an_is_on cd_is_on ct_is_on), sl_is_on⟩)
    (c_is_on : PySem.W.codeIn K cd_is_on "is_on" = true) (k_is_on : PySem.W.keepIn K (.ref f_is_on) = true)
    {od_crosses_east an_crosses_east : Option Addr} {sl_crosses_east : Array (Option Value)} {oc_crosses_east kV_crosses_east dc_crosses_east pm_crosses_east cd_crosses_east ct_crosses_east : Value} {f_crosses_east : Addr}
    (a_crosses_east : PySem.W.nsIn K mainGlobals "crosses_east" = some (some (.ref f_crosses_east)))
    (l_crosses_east : K.lookup f_crosses_east = some ⟨oc_crosses_east, od_crosses_east, .func (PySem.W.fnOf "crosses_east" "crosses_east" (defArgs s_crosses_east) (defBody s_crosses_east) (defScope s_crosses_east) .none kV_crosses_east dc_crosses_east pm_crosses_east an_crosses_east cd_crosses_east ct_crosses_east), sl_crosses_east⟩)
    (c_crosses_east : PySem.W.codeIn K cd_crosses_east "crosses_east" = true) (k_crosses_east : PySem.W.keepIn K (.ref f_crosses_east) = true)
    {od_are_apart an_are_apart : Option Addr} {sl_are_apart : Array (Option Value)} {oc_are_apart kV_are_apart dc_are_apart pm_are_apart cd_are_apart ct_are_apart : Value} {f_are_apart : Addr}
    (a_are_apart : PySem.W.nsIn K mainGlobals "are_apart" = some (some (.ref f_are_apart)))
    (l_are_apart : K.lookup f_are_apart = some ⟨oc_are_apart, od_are_apart, .func (PySem.W.fnOf "are_apart" "are_apart" (defArgs s_are_apart) (defBody s_are_apart) (defScope s_are_apart) .none kV_are_apart dc_are_apart pm_are_apart an_are_apart cd_are_apart ct_are_apart), sl_are_apart⟩)
    (c_are_apart : PySem.W.codeIn K cd_are_apart "are_apart" = true) (k_are_apart : PySem.W.keepIn K (.ref f_are_apart) = true)
    {od_meeting_on_line an_meeting_on_line : Option Addr} {sl_meeting_on_line : Array (Option Value)} {oc_meeting_on_line kV_meeting_on_line dc_meeting_on_line pm_meeting_on_line cd_meeting_on_line ct_meeting_on_line : Value} {f_meeting_on_line : Addr}
    (a_meeting_on_line : PySem.W.nsIn K mainGlobals "meeting_on_line" = some (some (.ref f_meeting_on_line)))
    (l_meeting_on_line : K.lookup f_meeting_on_line = some ⟨oc_meeting_on_line, od_meeting_on_line, .func (PySem.W.fnOf "meeting_on_line" "meeting_on_line" (defArgs s_meeting_on_line) (defBody s_meeting_on_line) (defScope s_meeting_on_line) .none kV_meeting_on_line dc_meeting_on_line pm_meeting_on_line an_meeting_on_line cd_meeting_on_line ct_meeting_on_line), sl_meeting_on_line⟩)
    (c_meeting_on_line : PySem.W.codeIn K cd_meeting_on_line "meeting_on_line" = true) (k_meeting_on_line : PySem.W.keepIn K (.ref f_meeting_on_line) = true)
    {od_common_end an_common_end : Option Addr} {sl_common_end : Array (Option Value)} {oc_common_end kV_common_end dc_common_end pm_common_end cd_common_end ct_common_end : Value} {f_common_end : Addr}
    (a_common_end : PySem.W.nsIn K mainGlobals "common_end" = some (some (.ref f_common_end)))
    (l_common_end : K.lookup f_common_end = some ⟨oc_common_end, od_common_end, .func (PySem.W.fnOf "common_end" "common_end" (defArgs s_common_end) (defBody s_common_end) (defScope s_common_end) .none kV_common_end dc_common_end pm_common_end an_common_end cd_common_end ct_common_end), sl_common_end⟩)
    (c_common_end : PySem.W.codeIn K cd_common_end "common_end" = true) (k_common_end : PySem.W.keepIn K (.ref f_common_end) = true)
    {od_cut_point an_cut_point : Option Addr} {sl_cut_point : Array (Option Value)} {oc_cut_point kV_cut_point dc_cut_point pm_cut_point cd_cut_point ct_cut_point : Value} {f_cut_point : Addr}
    (a_cut_point : PySem.W.nsIn K mainGlobals "cut_point" = some (some (.ref f_cut_point)))
    (l_cut_point : K.lookup f_cut_point = some ⟨oc_cut_point, od_cut_point, .func (PySem.W.fnOf "cut_point" "cut_point" (defArgs s_cut_point) (defBody s_cut_point) (defScope s_cut_point) .none kV_cut_point dc_cut_point pm_cut_point an_cut_point cd_cut_point ct_cut_point), sl_cut_point⟩)
    (c_cut_point : PySem.W.codeIn K cd_cut_point "cut_point" = true) (k_cut_point : PySem.W.keepIn K (.ref f_cut_point) = true)
    {od_meeting_of an_meeting_of : Option Addr} {sl_meeting_of : Array (Option Value)} {oc_meeting_of kV_meeting_of dc_meeting_of pm_meeting_of cd_meeting_of ct_meeting_of : Value} {f_meeting_of : Addr}
    (a_meeting_of : PySem.W.nsIn K mainGlobals "meeting_of" = some (some (.ref f_meeting_of)))
    (l_meeting_of : K.lookup f_meeting_of = some ⟨oc_meeting_of, od_meeting_of, .func (PySem.W.fnOf "meeting_of" "meeting_of" (defArgs s_meeting_of) (defBody s_meeting_of) (defScope s_meeting_of) .none kV_meeting_of dc_meeting_of pm_meeting_of an_meeting_of cd_meeting_of ct_meeting_of), sl_meeting_of⟩)
    (c_meeting_of : PySem.W.codeIn K cd_meeting_of "meeting_of" = true) (k_meeting_of : PySem.W.keepIn K (.ref f_meeting_of) = true)
    {od_meeting an_meeting : Option Addr} {sl_meeting : Array (Option Value)} {oc_meeting kV_meeting dc_meeting pm_meeting cd_meeting ct_meeting : Value} {f_meeting : Addr}
    (a_meeting : PySem.W.nsIn K mainGlobals "meeting" = some (some (.ref f_meeting)))
    (l_meeting : K.lookup f_meeting = some ⟨oc_meeting, od_meeting, .func (PySem.W.fnOf "meeting" "meeting" (defArgs s_meeting) (defBody s_meeting) (defScope s_meeting) .none kV_meeting dc_meeting pm_meeting an_meeting cd_meeting ct_meeting), sl_meeting⟩)
    (c_meeting : PySem.W.codeIn K cd_meeting "meeting" = true) (k_meeting : PySem.W.keepIn K (.ref f_meeting) = true)
    {od_ways_around an_ways_around : Option Addr} {sl_ways_around : Array (Option Value)} {oc_ways_around kV_ways_around dc_ways_around pm_ways_around cd_ways_around ct_ways_around : Value} {f_ways_around : Addr}
    (a_ways_around : PySem.W.nsIn K mainGlobals "ways_around" = some (some (.ref f_ways_around)))
    (l_ways_around : K.lookup f_ways_around = some ⟨oc_ways_around, od_ways_around, .func (PySem.W.fnOf "ways_around" "ways_around" (defArgs s_ways_around) (defBody s_ways_around) (defScope s_ways_around) .none kV_ways_around dc_ways_around pm_ways_around an_ways_around cd_ways_around ct_ways_around), sl_ways_around⟩)
    (c_ways_around : PySem.W.codeIn K cd_ways_around "ways_around" = true) (k_ways_around : PySem.W.keepIn K (.ref f_ways_around) = true)
    {od_area_around an_area_around : Option Addr} {sl_area_around : Array (Option Value)} {oc_area_around kV_area_around dc_area_around pm_area_around cd_area_around ct_area_around : Value} {f_area_around : Addr}
    (a_area_around : PySem.W.nsIn K mainGlobals "area_around" = some (some (.ref f_area_around)))
    (l_area_around : K.lookup f_area_around = some ⟨oc_area_around, od_area_around, .func (PySem.W.fnOf "area_around" "area_around" (defArgs s_area_around) (defBody s_area_around) (defScope s_area_around) .none kV_area_around dc_area_around pm_area_around an_area_around cd_area_around ct_area_around), sl_area_around⟩)
    (c_area_around : PySem.W.codeIn K cd_area_around "area_around" = true) (k_area_around : PySem.W.keepIn K (.ref f_area_around) = true)
    {od_do_follow an_do_follow : Option Addr} {sl_do_follow : Array (Option Value)} {oc_do_follow kV_do_follow dc_do_follow pm_do_follow cd_do_follow ct_do_follow : Value} {f_do_follow : Addr}
    (a_do_follow : PySem.W.nsIn K mainGlobals "do_follow" = some (some (.ref f_do_follow)))
    (l_do_follow : K.lookup f_do_follow = some ⟨oc_do_follow, od_do_follow, .func (PySem.W.fnOf "do_follow" "do_follow" (defArgs s_do_follow) (defBody s_do_follow) (defScope s_do_follow) .none kV_do_follow dc_do_follow pm_do_follow an_do_follow cd_do_follow ct_do_follow), sl_do_follow⟩)
    (c_do_follow : PySem.W.codeIn K cd_do_follow "do_follow" = true) (k_do_follow : PySem.W.keepIn K (.ref f_do_follow) = true)
    {od_is_simple an_is_simple : Option Addr} {sl_is_simple : Array (Option Value)} {oc_is_simple kV_is_simple dc_is_simple pm_is_simple cd_is_simple ct_is_simple : Value} {f_is_simple : Addr}
    (a_is_simple : PySem.W.nsIn K mainGlobals "is_simple" = some (some (.ref f_is_simple)))
    (l_is_simple : K.lookup f_is_simple = some ⟨oc_is_simple, od_is_simple, .func (PySem.W.fnOf "is_simple" "is_simple" (defArgs s_is_simple) (defBody s_is_simple) (defScope s_is_simple) .none kV_is_simple dc_is_simple pm_is_simple an_is_simple cd_is_simple ct_is_simple), sl_is_simple⟩)
    (c_is_simple : PySem.W.codeIn K cd_is_simple "is_simple" = true) (k_is_simple : PySem.W.keepIn K (.ref f_is_simple) = true)
    {od_goes_around an_goes_around : Option Addr} {sl_goes_around : Array (Option Value)} {oc_goes_around kV_goes_around dc_goes_around pm_goes_around cd_goes_around ct_goes_around : Value} {f_goes_around : Addr}
    (a_goes_around : PySem.W.nsIn K mainGlobals "goes_around" = some (some (.ref f_goes_around)))
    (l_goes_around : K.lookup f_goes_around = some ⟨oc_goes_around, od_goes_around, .func (PySem.W.fnOf "goes_around" "goes_around" (defArgs s_goes_around) (defBody s_goes_around) (defScope s_goes_around) .none kV_goes_around dc_goes_around pm_goes_around an_goes_around cd_goes_around ct_goes_around), sl_goes_around⟩)
    (c_goes_around : PySem.W.codeIn K cd_goes_around "goes_around" = true) (k_goes_around : PySem.W.keepIn K (.ref f_goes_around) = true)
    {od_is_ring an_is_ring : Option Addr} {sl_is_ring : Array (Option Value)} {oc_is_ring kV_is_ring dc_is_ring pm_is_ring cd_is_ring ct_is_ring : Value} {f_is_ring : Addr}
    (a_is_ring : PySem.W.nsIn K mainGlobals "is_ring" = some (some (.ref f_is_ring)))
    (l_is_ring : K.lookup f_is_ring = some ⟨oc_is_ring, od_is_ring, .func (PySem.W.fnOf "is_ring" "is_ring" (defArgs s_is_ring) (defBody s_is_ring) (defScope s_is_ring) .none kV_is_ring dc_is_ring pm_is_ring an_is_ring cd_is_ring ct_is_ring), sl_is_ring⟩)
    (c_is_ring : PySem.W.codeIn K cd_is_ring "is_ring" = true) (k_is_ring : PySem.W.keepIn K (.ref f_is_ring) = true)
    {od_ring_of an_ring_of : Option Addr} {sl_ring_of : Array (Option Value)} {oc_ring_of kV_ring_of dc_ring_of pm_ring_of cd_ring_of ct_ring_of : Value} {f_ring_of : Addr}
    (a_ring_of : PySem.W.nsIn K mainGlobals "ring_of" = some (some (.ref f_ring_of)))
    (l_ring_of : K.lookup f_ring_of = some ⟨oc_ring_of, od_ring_of, .func (PySem.W.fnOf "ring_of" "ring_of" (defArgs s_ring_of) (defBody s_ring_of) (defScope s_ring_of) .none kV_ring_of dc_ring_of pm_ring_of an_ring_of cd_ring_of ct_ring_of), sl_ring_of⟩)
    (c_ring_of : PySem.W.codeIn K cd_ring_of "ring_of" = true) (k_ring_of : PySem.W.keepIn K (.ref f_ring_of) = true)
    {od_place_in an_place_in : Option Addr} {sl_place_in : Array (Option Value)} {oc_place_in kV_place_in dc_place_in pm_place_in cd_place_in ct_place_in : Value} {f_place_in : Addr}
    (a_place_in : PySem.W.nsIn K mainGlobals "place_in" = some (some (.ref f_place_in)))
    (l_place_in : K.lookup f_place_in = some ⟨oc_place_in, od_place_in, .func (PySem.W.fnOf "place_in" "place_in" (defArgs s_place_in) (defBody s_place_in) (defScope s_place_in) .none kV_place_in dc_place_in pm_place_in an_place_in cd_place_in ct_place_in), sl_place_in⟩)
    (c_place_in : PySem.W.codeIn K cd_place_in "place_in" = true) (k_place_in : PySem.W.keepIn K (.ref f_place_in) = true)
    {od_left_turns an_left_turns : Option Addr} {sl_left_turns : Array (Option Value)} {oc_left_turns kV_left_turns dc_left_turns pm_left_turns cd_left_turns ct_left_turns : Value} {f_left_turns : Addr}
    (a_left_turns : PySem.W.nsIn K mainGlobals "left_turns" = some (some (.ref f_left_turns)))
    (l_left_turns : K.lookup f_left_turns = some ⟨oc_left_turns, od_left_turns, .func (PySem.W.fnOf "left_turns" "left_turns" (defArgs s_left_turns) (defBody s_left_turns) (defScope s_left_turns) .none kV_left_turns dc_left_turns pm_left_turns an_left_turns cd_left_turns ct_left_turns), sl_left_turns⟩)
    (c_left_turns : PySem.W.codeIn K cd_left_turns "left_turns" = true) (k_left_turns : PySem.W.keepIn K (.ref f_left_turns) = true)
    {od_hull_of an_hull_of : Option Addr} {sl_hull_of : Array (Option Value)} {oc_hull_of kV_hull_of dc_hull_of pm_hull_of cd_hull_of ct_hull_of : Value} {f_hull_of : Addr}
    (a_hull_of : PySem.W.nsIn K mainGlobals "hull_of" = some (some (.ref f_hull_of)))
    (l_hull_of : K.lookup f_hull_of = some ⟨oc_hull_of, od_hull_of, .func (PySem.W.fnOf "hull_of" "hull_of" (defArgs s_hull_of) (defBody s_hull_of) (defScope s_hull_of) .none kV_hull_of dc_hull_of pm_hull_of an_hull_of cd_hull_of ct_hull_of), sl_hull_of⟩)
    (c_hull_of : PySem.W.codeIn K cd_hull_of "hull_of" = true) (k_hull_of : PySem.W.keepIn K (.ref f_hull_of) = true)
    {od__law_stream an__law_stream : Option Addr} {sl__law_stream : Array (Option Value)} {oc__law_stream kV__law_stream dc__law_stream pm__law_stream cd__law_stream ct__law_stream : Value} {f__law_stream : Addr}
    (a__law_stream : PySem.W.nsIn K mainGlobals "_law_stream" = some (some (.ref f__law_stream)))
    (l__law_stream : K.lookup f__law_stream = some ⟨oc__law_stream, od__law_stream, .func (PySem.W.fnOf "_law_stream" "_law_stream" (defArgs s__law_stream) (defBody s__law_stream) (defScope s__law_stream) .none kV__law_stream dc__law_stream pm__law_stream an__law_stream cd__law_stream ct__law_stream), sl__law_stream⟩)
    (c__law_stream : PySem.W.codeIn K cd__law_stream "_law_stream" = true) (k__law_stream : PySem.W.keepIn K (.ref f__law_stream) = true)
    {od__law_next an__law_next : Option Addr} {sl__law_next : Array (Option Value)} {oc__law_next kV__law_next dc__law_next pm__law_next cd__law_next ct__law_next : Value} {f__law_next : Addr}
    (a__law_next : PySem.W.nsIn K mainGlobals "_law_next" = some (some (.ref f__law_next)))
    (l__law_next : K.lookup f__law_next = some ⟨oc__law_next, od__law_next, .func (PySem.W.fnOf "_law_next" "_law_next" (defArgs s__law_next) (defBody s__law_next) (defScope s__law_next) .none kV__law_next dc__law_next pm__law_next an__law_next cd__law_next ct__law_next), sl__law_next⟩)
    (c__law_next : PySem.W.codeIn K cd__law_next "_law_next" = true) (k__law_next : PySem.W.keepIn K (.ref f__law_next) = true)
    {od__law_is_integer an__law_is_integer : Option Addr} {sl__law_is_integer : Array (Option Value)} {oc__law_is_integer kV__law_is_integer dc__law_is_integer pm__law_is_integer cd__law_is_integer ct__law_is_integer : Value} {f__law_is_integer : Addr}
    (a__law_is_integer : PySem.W.nsIn K mainGlobals "_law_is_integer" = some (some (.ref f__law_is_integer)))
    (l__law_is_integer : K.lookup f__law_is_integer = some ⟨oc__law_is_integer, od__law_is_integer, .func (PySem.W.fnOf "_law_is_integer" "_law_is_integer" (defArgs s__law_is_integer) (defBody s__law_is_integer) (defScope s__law_is_integer) .none kV__law_is_integer dc__law_is_integer pm__law_is_integer an__law_is_integer cd__law_is_integer ct__law_is_integer), sl__law_is_integer⟩)
    (c__law_is_integer : PySem.W.codeIn K cd__law_is_integer "_law_is_integer" = true) (k__law_is_integer : PySem.W.keepIn K (.ref f__law_is_integer) = true)
    {od__law_gcd an__law_gcd : Option Addr} {sl__law_gcd : Array (Option Value)} {oc__law_gcd kV__law_gcd dc__law_gcd pm__law_gcd cd__law_gcd ct__law_gcd : Value} {f__law_gcd : Addr}
    (a__law_gcd : PySem.W.nsIn K mainGlobals "_law_gcd" = some (some (.ref f__law_gcd)))
    (l__law_gcd : K.lookup f__law_gcd = some ⟨oc__law_gcd, od__law_gcd, .func (PySem.W.fnOf "_law_gcd" "_law_gcd" (defArgs s__law_gcd) (defBody s__law_gcd) (defScope s__law_gcd) .none kV__law_gcd dc__law_gcd pm__law_gcd an__law_gcd cd__law_gcd ct__law_gcd), sl__law_gcd⟩)
    (c__law_gcd : PySem.W.codeIn K cd__law_gcd "_law_gcd" = true) (k__law_gcd : PySem.W.keepIn K (.ref f__law_gcd) = true)
    {od__law_low an__law_low : Option Addr} {sl__law_low : Array (Option Value)} {oc__law_low kV__law_low dc__law_low pm__law_low cd__law_low ct__law_low : Value} {f__law_low : Addr}
    (a__law_low : PySem.W.nsIn K mainGlobals "_law_low" = some (some (.ref f__law_low)))
    (l__law_low : K.lookup f__law_low = some ⟨oc__law_low, od__law_low, .func (PySem.W.fnOf "_law_low" "_law_low" (defArgs s__law_low) (defBody s__law_low) (defScope s__law_low) .none kV__law_low dc__law_low pm__law_low an__law_low cd__law_low ct__law_low), sl__law_low⟩)
    (c__law_low : PySem.W.codeIn K cd__law_low "_law_low" = true) (k__law_low : PySem.W.keepIn K (.ref f__law_low) = true)
    {od__law_plus an__law_plus : Option Addr} {sl__law_plus : Array (Option Value)} {oc__law_plus kV__law_plus dc__law_plus pm__law_plus cd__law_plus ct__law_plus : Value} {f__law_plus : Addr}
    (a__law_plus : PySem.W.nsIn K mainGlobals "_law_plus" = some (some (.ref f__law_plus)))
    (l__law_plus : K.lookup f__law_plus = some ⟨oc__law_plus, od__law_plus, .func (PySem.W.fnOf "_law_plus" "_law_plus" (defArgs s__law_plus) (defBody s__law_plus) (defScope s__law_plus) .none kV__law_plus dc__law_plus pm__law_plus an__law_plus cd__law_plus ct__law_plus), sl__law_plus⟩)
    (c__law_plus : PySem.W.codeIn K cd__law_plus "_law_plus" = true) (k__law_plus : PySem.W.keepIn K (.ref f__law_plus) = true)
    {od__law_equal an__law_equal : Option Addr} {sl__law_equal : Array (Option Value)} {oc__law_equal kV__law_equal dc__law_equal pm__law_equal cd__law_equal ct__law_equal : Value} {f__law_equal : Addr}
    (a__law_equal : PySem.W.nsIn K mainGlobals "_law_equal" = some (some (.ref f__law_equal)))
    (l__law_equal : K.lookup f__law_equal = some ⟨oc__law_equal, od__law_equal, .func (PySem.W.fnOf "_law_equal" "_law_equal" (defArgs s__law_equal) (defBody s__law_equal) (defScope s__law_equal) .none kV__law_equal dc__law_equal pm__law_equal an__law_equal cd__law_equal ct__law_equal), sl__law_equal⟩)
    (c__law_equal : PySem.W.codeIn K cd__law_equal "_law_equal" = true) (k__law_equal : PySem.W.keepIn K (.ref f__law_equal) = true)
    {od__law_turn an__law_turn : Option Addr} {sl__law_turn : Array (Option Value)} {oc__law_turn kV__law_turn dc__law_turn pm__law_turn cd__law_turn ct__law_turn : Value} {f__law_turn : Addr}
    (a__law_turn : PySem.W.nsIn K mainGlobals "_law_turn" = some (some (.ref f__law_turn)))
    (l__law_turn : K.lookup f__law_turn = some ⟨oc__law_turn, od__law_turn, .func (PySem.W.fnOf "_law_turn" "_law_turn" (defArgs s__law_turn) (defBody s__law_turn) (defScope s__law_turn) .none kV__law_turn dc__law_turn pm__law_turn an__law_turn cd__law_turn ct__law_turn), sl__law_turn⟩)
    (c__law_turn : PySem.W.codeIn K cd__law_turn "_law_turn" = true) (k__law_turn : PySem.W.keepIn K (.ref f__law_turn) = true)
    {od__law_sign an__law_sign : Option Addr} {sl__law_sign : Array (Option Value)} {oc__law_sign kV__law_sign dc__law_sign pm__law_sign cd__law_sign ct__law_sign : Value} {f__law_sign : Addr}
    (a__law_sign : PySem.W.nsIn K mainGlobals "_law_sign" = some (some (.ref f__law_sign)))
    (l__law_sign : K.lookup f__law_sign = some ⟨oc__law_sign, od__law_sign, .func (PySem.W.fnOf "_law_sign" "_law_sign" (defArgs s__law_sign) (defBody s__law_sign) (defScope s__law_sign) .none kV__law_sign dc__law_sign pm__law_sign an__law_sign cd__law_sign ct__law_sign), sl__law_sign⟩)
    (c__law_sign : PySem.W.codeIn K cd__law_sign "_law_sign" = true) (k__law_sign : PySem.W.keepIn K (.ref f__law_sign) = true)
    {od__law_between an__law_between : Option Addr} {sl__law_between : Array (Option Value)} {oc__law_between kV__law_between dc__law_between pm__law_between cd__law_between ct__law_between : Value} {f__law_between : Addr}
    (a__law_between : PySem.W.nsIn K mainGlobals "_law_between" = some (some (.ref f__law_between)))
    (l__law_between : K.lookup f__law_between = some ⟨oc__law_between, od__law_between, .func (PySem.W.fnOf "_law_between" "_law_between" (defArgs s__law_between) (defBody s__law_between) (defScope s__law_between) .none kV__law_between dc__law_between pm__law_between an__law_between cd__law_between ct__law_between), sl__law_between⟩)
    (c__law_between : PySem.W.codeIn K cd__law_between "_law_between" = true) (k__law_between : PySem.W.keepIn K (.ref f__law_between) = true)
    {od__law_point an__law_point : Option Addr} {sl__law_point : Array (Option Value)} {oc__law_point kV__law_point dc__law_point pm__law_point cd__law_point ct__law_point : Value} {f__law_point : Addr}
    (a__law_point : PySem.W.nsIn K mainGlobals "_law_point" = some (some (.ref f__law_point)))
    (l__law_point : K.lookup f__law_point = some ⟨oc__law_point, od__law_point, .func (PySem.W.fnOf "_law_point" "_law_point" (defArgs s__law_point) (defBody s__law_point) (defScope s__law_point) .none kV__law_point dc__law_point pm__law_point an__law_point cd__law_point ct__law_point), sl__law_point⟩)
    (c__law_point : PySem.W.codeIn K cd__law_point "_law_point" = true) (k__law_point : PySem.W.keepIn K (.ref f__law_point) = true)
    {od__law_segment an__law_segment : Option Addr} {sl__law_segment : Array (Option Value)} {oc__law_segment kV__law_segment dc__law_segment pm__law_segment cd__law_segment ct__law_segment : Value} {f__law_segment : Addr}
    (a__law_segment : PySem.W.nsIn K mainGlobals "_law_segment" = some (some (.ref f__law_segment)))
    (l__law_segment : K.lookup f__law_segment = some ⟨oc__law_segment, od__law_segment, .func (PySem.W.fnOf "_law_segment" "_law_segment" (defArgs s__law_segment) (defBody s__law_segment) (defScope s__law_segment) .none kV__law_segment dc__law_segment pm__law_segment an__law_segment cd__law_segment ct__law_segment), sl__law_segment⟩)
    (c__law_segment : PySem.W.codeIn K cd__law_segment "_law_segment" = true) (k__law_segment : PySem.W.keepIn K (.ref f__law_segment) = true)
    {od__law_edges an__law_edges : Option Addr} {sl__law_edges : Array (Option Value)} {oc__law_edges kV__law_edges dc__law_edges pm__law_edges cd__law_edges ct__law_edges : Value} {f__law_edges : Addr}
    (a__law_edges : PySem.W.nsIn K mainGlobals "_law_edges" = some (some (.ref f__law_edges)))
    (l__law_edges : K.lookup f__law_edges = some ⟨oc__law_edges, od__law_edges, .func (PySem.W.fnOf "_law_edges" "_law_edges" (defArgs s__law_edges) (defBody s__law_edges) (defScope s__law_edges) .none kV__law_edges dc__law_edges pm__law_edges an__law_edges cd__law_edges ct__law_edges), sl__law_edges⟩)
    (c__law_edges : PySem.W.codeIn K cd__law_edges "_law_edges" = true) (k__law_edges : PySem.W.keepIn K (.ref f__law_edges) = true)
    {od__law_size an__law_size : Option Addr} {sl__law_size : Array (Option Value)} {oc__law_size kV__law_size dc__law_size pm__law_size cd__law_size ct__law_size : Value} {f__law_size : Addr}
    (a__law_size : PySem.W.nsIn K mainGlobals "_law_size" = some (some (.ref f__law_size)))
    (l__law_size : K.lookup f__law_size = some ⟨oc__law_size, od__law_size, .func (PySem.W.fnOf "_law_size" "_law_size" (defArgs s__law_size) (defBody s__law_size) (defScope s__law_size) .none kV__law_size dc__law_size pm__law_size an__law_size cd__law_size ct__law_size), sl__law_size⟩)
    (c__law_size : PySem.W.codeIn K cd__law_size "_law_size" = true) (k__law_size : PySem.W.keepIn K (.ref f__law_size) = true)
    {od__law_meet an__law_meet : Option Addr} {sl__law_meet : Array (Option Value)} {oc__law_meet kV__law_meet dc__law_meet pm__law_meet cd__law_meet ct__law_meet : Value} {f__law_meet : Addr}
    (a__law_meet : PySem.W.nsIn K mainGlobals "_law_meet" = some (some (.ref f__law_meet)))
    (l__law_meet : K.lookup f__law_meet = some ⟨oc__law_meet, od__law_meet, .func (PySem.W.fnOf "_law_meet" "_law_meet" (defArgs s__law_meet) (defBody s__law_meet) (defScope s__law_meet) .none kV__law_meet dc__law_meet pm__law_meet an__law_meet cd__law_meet ct__law_meet), sl__law_meet⟩)
    (c__law_meet : PySem.W.codeIn K cd__law_meet "_law_meet" = true) (k__law_meet : PySem.W.keepIn K (.ref f__law_meet) = true)
    {od__law_is_simple an__law_is_simple : Option Addr} {sl__law_is_simple : Array (Option Value)} {oc__law_is_simple kV__law_is_simple dc__law_is_simple pm__law_is_simple cd__law_is_simple ct__law_is_simple : Value} {f__law_is_simple : Addr}
    (a__law_is_simple : PySem.W.nsIn K mainGlobals "_law_is_simple" = some (some (.ref f__law_is_simple)))
    (l__law_is_simple : K.lookup f__law_is_simple = some ⟨oc__law_is_simple, od__law_is_simple, .func (PySem.W.fnOf "_law_is_simple" "_law_is_simple" (defArgs s__law_is_simple) (defBody s__law_is_simple) (defScope s__law_is_simple) .none kV__law_is_simple dc__law_is_simple pm__law_is_simple an__law_is_simple cd__law_is_simple ct__law_is_simple), sl__law_is_simple⟩)
    (c__law_is_simple : PySem.W.codeIn K cd__law_is_simple "_law_is_simple" = true) (k__law_is_simple : PySem.W.keepIn K (.ref f__law_is_simple) = true)
    {od__law_made an__law_made : Option Addr} {sl__law_made : Array (Option Value)} {oc__law_made kV__law_made dc__law_made pm__law_made cd__law_made ct__law_made : Value} {f__law_made : Addr}
    (a__law_made : PySem.W.nsIn K mainGlobals "_law_made" = some (some (.ref f__law_made)))
    (l__law_made : K.lookup f__law_made = some ⟨oc__law_made, od__law_made, .func (PySem.W.fnOf "_law_made" "_law_made" (defArgs s__law_made) (defBody s__law_made) (defScope s__law_made) .none kV__law_made dc__law_made pm__law_made an__law_made cd__law_made ct__law_made), sl__law_made⟩)
    (c__law_made : PySem.W.codeIn K cd__law_made "_law_made" = true) (k__law_made : PySem.W.keepIn K (.ref f__law_made) = true)
    {od__law_grown an__law_grown : Option Addr} {sl__law_grown : Array (Option Value)} {oc__law_grown kV__law_grown dc__law_grown pm__law_grown cd__law_grown ct__law_grown : Value} {f__law_grown : Addr}
    (a__law_grown : PySem.W.nsIn K mainGlobals "_law_grown" = some (some (.ref f__law_grown)))
    (l__law_grown : K.lookup f__law_grown = some ⟨oc__law_grown, od__law_grown, .func (PySem.W.fnOf "_law_grown" "_law_grown" (defArgs s__law_grown) (defBody s__law_grown) (defScope s__law_grown) .none kV__law_grown dc__law_grown pm__law_grown an__law_grown cd__law_grown ct__law_grown), sl__law_grown⟩)
    (c__law_grown : PySem.W.codeIn K cd__law_grown "_law_grown" = true) (k__law_grown : PySem.W.keepIn K (.ref f__law_grown) = true)
    {od__law_image an__law_image : Option Addr} {sl__law_image : Array (Option Value)} {oc__law_image kV__law_image dc__law_image pm__law_image cd__law_image ct__law_image : Value} {f__law_image : Addr}
    (a__law_image : PySem.W.nsIn K mainGlobals "_law_image" = some (some (.ref f__law_image)))
    (l__law_image : K.lookup f__law_image = some ⟨oc__law_image, od__law_image, .func (PySem.W.fnOf "_law_image" "_law_image" (defArgs s__law_image) (defBody s__law_image) (defScope s__law_image) .none kV__law_image dc__law_image pm__law_image an__law_image cd__law_image ct__law_image), sl__law_image⟩)
    (c__law_image : PySem.W.codeIn K cd__law_image "_law_image" = true) (k__law_image : PySem.W.keepIn K (.ref f__law_image) = true)
    {od__law_segment_image an__law_segment_image : Option Addr} {sl__law_segment_image : Array (Option Value)} {oc__law_segment_image kV__law_segment_image dc__law_segment_image pm__law_segment_image cd__law_segment_image ct__law_segment_image : Value} {f__law_segment_image : Addr}
    (a__law_segment_image : PySem.W.nsIn K mainGlobals "_law_segment_image" = some (some (.ref f__law_segment_image)))
    (l__law_segment_image : K.lookup f__law_segment_image = some ⟨oc__law_segment_image, od__law_segment_image, .func (PySem.W.fnOf "_law_segment_image" "_law_segment_image" (defArgs s__law_segment_image) (defBody s__law_segment_image) (defScope s__law_segment_image) .none kV__law_segment_image dc__law_segment_image pm__law_segment_image an__law_segment_image cd__law_segment_image ct__law_segment_image), sl__law_segment_image⟩)
    (c__law_segment_image : PySem.W.codeIn K cd__law_segment_image "_law_segment_image" = true) (k__law_segment_image : PySem.W.keepIn K (.ref f__law_segment_image) = true)
    {od__law_exact an__law_exact : Option Addr} {sl__law_exact : Array (Option Value)} {oc__law_exact kV__law_exact dc__law_exact pm__law_exact cd__law_exact ct__law_exact : Value} {f__law_exact : Addr}
    (a__law_exact : PySem.W.nsIn K mainGlobals "_law_exact" = some (some (.ref f__law_exact)))
    (l__law_exact : K.lookup f__law_exact = some ⟨oc__law_exact, od__law_exact, .func (PySem.W.fnOf "_law_exact" "_law_exact" (defArgs s__law_exact) (defBody s__law_exact) (defScope s__law_exact) .none kV__law_exact dc__law_exact pm__law_exact an__law_exact cd__law_exact ct__law_exact), sl__law_exact⟩)
    (c__law_exact : PySem.W.codeIn K cd__law_exact "_law_exact" = true) (k__law_exact : PySem.W.keepIn K (.ref f__law_exact) = true)
    {od_law an_law : Option Addr} {sl_law : Array (Option Value)} {oc_law kV_law dc_law pm_law cd_law ct_law : Value} {f_law : Addr}
    (a_law : PySem.W.nsIn K mainGlobals "law" = some (some (.ref f_law)))
    (l_law : K.lookup f_law = some ⟨oc_law, od_law, .func (PySem.W.fnOf "law" "law" (defArgs s_law) (defBody s_law) (defScope s_law) .none kV_law dc_law pm_law an_law cd_law ct_law), sl_law⟩)
    (c_law : PySem.W.codeIn K cd_law "law" = true) (k_law : PySem.W.keepIn K (.ref f_law) = true)
    (z_abs : PySem.W.nsIn K mainGlobals "abs" = some none)
    (z_all : PySem.W.nsIn K mainGlobals "all" = some none)
    (z_any : PySem.W.nsIn K mainGlobals "any" = some none)
    (z_bool : PySem.W.nsIn K mainGlobals "bool" = some none)
    (z_int : PySem.W.nsIn K mainGlobals "int" = some none)
    (z_isinstance : PySem.W.nsIn K mainGlobals "isinstance" = some none)
    (z_len : PySem.W.nsIn K mainGlobals "len" = some none)
    (z_list : PySem.W.nsIn K mainGlobals "list" = some none)
    (z_max : PySem.W.nsIn K mainGlobals "max" = some none)
    (z_min : PySem.W.nsIn K mainGlobals "min" = some none)
    (z_range : PySem.W.nsIn K mainGlobals "range" = some none)
    (z_set : PySem.W.nsIn K mainGlobals "set" = some none)
    (z_sorted : PySem.W.nsIn K mainGlobals "sorted" = some none)
    (z_str : PySem.W.nsIn K mainGlobals "str" = some none)
    (z_sum : PySem.W.nsIn K mainGlobals "sum" = some none)
    (z_tuple : PySem.W.nsIn K mainGlobals "tuple" = some none)
    (z_zip : PySem.W.nsIn K mainGlobals "zip" = some none)
    {t_HIGHEST : Tok} (v_HIGHEST : PySem.W.nsIn K mainGlobals "HIGHEST" = some (some (.int (1000) t_HIGHEST)))
    {t_LEAST_OF_RING : Tok} (v_LEAST_OF_RING : PySem.W.nsIn K mainGlobals "LEAST_OF_RING" = some (some (.int (3) t_LEAST_OF_RING)))
    {t_LOWEST : Tok} (v_LOWEST : PySem.W.nsIn K mainGlobals "LOWEST" = some (some (.int (-1000) t_LOWEST)))
    {t_MOST_OF_HULL : Tok} (v_MOST_OF_HULL : PySem.W.nsIn K mainGlobals "MOST_OF_HULL" = some (some (.int (60) t_MOST_OF_HULL)))
    {t_MOST_OF_RING : Tok} (v_MOST_OF_RING : PySem.W.nsIn K mainGlobals "MOST_OF_RING" = some (some (.int (40) t_MOST_OF_RING)))
    (z_gcd : PySem.W.nsIn K mainGlobals "gcd" = some (some (.builtin "math.gcd")))
    {bnm bq : Str} {bN bC bI bM : Addr} {bbs : List Value} {bsn : List Str} {bsub : List Value} {bab : Bool} {bcol : Option Bool} {bdd : Option Addr} {bm0 bm1 bm2 bm3 bm5 : Option Value} {boc bdc bpm bcd bct : Value} {bod ban : Option Addr} {bsl : Array (Option Value)}
    (baC : PySem.W.nsIn K mainGlobals "BadValue" = some (some (.ref bC)))
    (bxL : K.lookup bC = some (excClassObj bnm bq bC bN bbs [.ref bM, .type "ValueError", .type "Exception", .type "BaseException", .type "object"] true bsn bsub bab bcol bdd bm0 bm1 bm2 bm3 bm5 "ValueError.__new__"))
    (bsa : PySem.W.findIn K (.ref bC) "__setattr__" = some (some (.builtin "object.__setattr__"))) (bga : PySem.W.findIn K (.ref bC) "__getattribute__" = some (some (.builtin "BaseException.__getattribute__"))) (bgg : PySem.W.findIn K (.ref bC) "__getattr__" = some none) (bnb : PySem.W.findIn K (.ref bC) "name" = some none)
    (ba1 : PySem.W.findIn K (.ref bC) "__init__" = some (some (.ref bI))) (bt1 : PySem.W.typeIn K (.ref bI) = some (.type "function"))
    (bl1 : K.lookup bI = some ⟨boc, bod, .func (PySem.W.fnOf "__init__" "BadValue.__init__" (PySem.BvX.iA ⟨7, 17, 7, 21⟩ ⟨7, 23, 7, 27⟩) (PySem.BvX.iB ⟨8, 8, 8, 12⟩ ⟨8, 8, 8, 17⟩ ⟨8, 20, 8, 24⟩ ⟨8, 8, 8, 24⟩) PySem.BvX.iS .none .none bdc bpm ban bcd bct), bsl⟩) (bc1 : PySem.W.codeIn K bcd "BadValue.__init__" = true)
    (bkC : PySem.W.keepIn K (.ref bC) = true) (beC : PySem.W.subIn K (.ref bC) (.type "BaseException") = some true) (btC : PySem.W.typeIn K (.ref bC) = some (.type "type")) (bhC : PySem.W.hasDictIn K bC = true) (biC : PySem.W.isClsIn K bC = true) (bsC : PySem.W.subIn K (.ref bC) (.ref bC) = some true)
    {cc_are_points P_are_points : Addr} {t1_are_points : Value} {t2_are_points : Option Addr} {t3_are_points : Array (Option Value)} {vs_are_points : Array Value}
    (e_are_points : cd_are_points = .ref cc_are_points) (o_are_points : K.lookup cc_are_points = some ⟨t1_are_points, t2_are_points, .fields vs_are_points, t3_are_points⟩) (v_are_points : (vs_are_points[11]? : Option Value) = some (.ref P_are_points)) (nl_are_points : K.lookup P_are_points = none)
    (rc_are_points : ((PyProof.Rows.recsOf q).any fun e => e.name == ("are_points" : Str)) = true)
    {cc_area_around P_area_around : Addr} {t1_area_around : Value} {t2_area_around : Option Addr} {t3_area_around : Array (Option Value)} {vs_area_around : Array Value}
    (e_area_around : cd_area_around = .ref cc_area_around) (o_area_around : K.lookup cc_area_around = some ⟨t1_area_around, t2_area_around, .fields vs_area_around, t3_area_around⟩) (v_area_around : (vs_area_around[11]? : Option Value) = some (.ref P_area_around)) (nl_area_around : K.lookup P_area_around = none)
    (rc_area_around : ((PyProof.Rows.recsOf q).any fun e => e.name == ("area_around" : Str)) = true)
    {cc_is_simple P_is_simple : Addr} {t1_is_simple : Value} {t2_is_simple : Option Addr} {t3_is_simple : Array (Option Value)} {vs_is_simple : Array Value}
    (e_is_simple : cd_is_simple = .ref cc_is_simple) (o_is_simple : K.lookup cc_is_simple = some ⟨t1_is_simple, t2_is_simple, .fields vs_is_simple, t3_is_simple⟩) (v_is_simple : (vs_is_simple[11]? : Option Value) = some (.ref P_is_simple)) (nl_is_simple : K.lookup P_is_simple = none)
    (rc_is_simple : ((PyProof.Rows.recsOf q).any fun e => e.name == ("is_simple" : Str)) = true)
    {cc_place_in P_place_in : Addr} {t1_place_in : Value} {t2_place_in : Option Addr} {t3_place_in : Array (Option Value)} {vs_place_in : Array Value}
    (e_place_in : cd_place_in = .ref cc_place_in) (o_place_in : K.lookup cc_place_in = some ⟨t1_place_in, t2_place_in, .fields vs_place_in, t3_place_in⟩) (v_place_in : (vs_place_in[11]? : Option Value) = some (.ref P_place_in)) (nl_place_in : K.lookup P_place_in = none)
    (rc_place_in : ((PyProof.Rows.recsOf q).any fun e => e.name == ("place_in" : Str)) = true)
    : LamX.LawAtS l w K CX0 15 63 "script" mg fa h := by
  have e := hfa.symm.trans (PySem.W.mg_of X G a_law)
  cases e
  let T : Txt K mg := {
    a_is_whole := f_is_whole, d_is_whole := _, F_is_whole := fun_mk (st := s_is_whole) l_is_whole c_is_whole k_is_whole, m_is_whole := PySem.W.mg_of X G a_is_whole,
    b_is_whole := (fun_mk (st := s_is_whole) l_is_whole c_is_whole k_is_whole).binds (ps := ["value"]) fun _ _ _ _ _ _ us hl => match us, hl with | [_], _ => rfl,
    a_is_pair := f_is_pair, d_is_pair := _, F_is_pair := fun_mk (st := s_is_pair) l_is_pair c_is_pair k_is_pair, m_is_pair := PySem.W.mg_of X G a_is_pair,
    b_is_pair := (fun_mk (st := s_is_pair) l_is_pair c_is_pair k_is_pair).binds (ps := ["value"]) fun _ _ _ _ _ _ us hl => match us, hl with | [_], _ => rfl,
    a_need := f_need, d_need := _, F_need := fun_mk (st := s_need) l_need c_need k_need, m_need := PySem.W.mg_of X G a_need,
    b_need := (fun_mk (st := s_need) l_need c_need k_need).binds (ps := ["holds", "name"]) fun _ _ _ _ _ _ us hl => match us, hl with | [_, _], _ => rfl,
    a_lowest := f_lowest, d_lowest := _, F_lowest := fun_mk (st := s_lowest) l_lowest c_lowest k_lowest, m_lowest := PySem.W.mg_of X G a_lowest,
    b_lowest := (fun_mk (st := s_lowest) l_lowest c_lowest k_lowest).binds (ps := ["n", "d"]) fun _ _ _ _ _ _ us hl => match us, hl with | [_, _], _ => rfl,
    a_is_coordinate := f_is_coordinate, d_is_coordinate := _, F_is_coordinate := fun_mk (st := s_is_coordinate) l_is_coordinate c_is_coordinate k_is_coordinate, m_is_coordinate := PySem.W.mg_of X G a_is_coordinate,
    b_is_coordinate := (fun_mk (st := s_is_coordinate) l_is_coordinate c_is_coordinate k_is_coordinate).binds (ps := ["value"]) fun _ _ _ _ _ _ us hl => match us, hl with | [_], _ => rfl,
    a_is_point := f_is_point, d_is_point := _, F_is_point := fun_mk (st := s_is_point) l_is_point c_is_point k_is_point, m_is_point := PySem.W.mg_of X G a_is_point,
    b_is_point := (fun_mk (st := s_is_point) l_is_point c_is_point k_is_point).binds (ps := ["value"]) fun _ _ _ _ _ _ us hl => match us, hl with | [_], _ => rfl,
    a_is_segment := f_is_segment, d_is_segment := _, F_is_segment := fun_mk (st := s_is_segment) l_is_segment c_is_segment k_is_segment, m_is_segment := PySem.W.mg_of X G a_is_segment,
    b_is_segment := (fun_mk (st := s_is_segment) l_is_segment c_is_segment k_is_segment).binds (ps := ["value"]) fun _ _ _ _ _ _ us hl => match us, hl with | [_], _ => rfl,
    a_are_points := f_are_points, d_are_points := _, cc_are_points := cc_are_points, P_are_points := P_are_points, F_are_points := funT_mk (st := s_are_points) l_are_points c_are_points k_are_points e_are_points, m_are_points := PySem.W.mg_of X G a_are_points,
    b_are_points := (fun_mk (st := s_are_points) l_are_points c_are_points k_are_points).binds (ps := ["value", "least", "most"]) fun _ _ _ _ _ _ us hl => match us, hl with | [_, _, _], _ => rfl,
    a_joining := f_joining, d_joining := _, F_joining := fun_mk (st := s_joining) l_joining c_joining k_joining, m_joining := PySem.W.mg_of X G a_joining,
    b_joining := (fun_mk (st := s_joining) l_joining c_joining k_joining).binds (ps := ["p", "q"]) fun _ _ _ _ _ _ us hl => match us, hl with | [_, _], _ => rfl,
    a_edges_along := f_edges_along, d_edges_along := _, F_edges_along := fun_mk (st := s_edges_along) l_edges_along c_edges_along k_edges_along, m_edges_along := PySem.W.mg_of X G a_edges_along,
    b_edges_along := (fun_mk (st := s_edges_along) l_edges_along c_edges_along k_edges_along).binds (ps := ["points"]) fun _ _ _ _ _ _ us hl => match us, hl with | [_], _ => rfl,
    a_turn_of := f_turn_of, d_turn_of := _, F_turn_of := fun_mk (st := s_turn_of) l_turn_of c_turn_of k_turn_of, m_turn_of := PySem.W.mg_of X G a_turn_of,
    b_turn_of := (fun_mk (st := s_turn_of) l_turn_of c_turn_of k_turn_of).binds (ps := ["a", "b", "c"]) fun _ _ _ _ _ _ us hl => match us, hl with | [_, _, _], _ => rfl,
    a_is_on := f_is_on, d_is_on := _, F_is_on := fun_mk (st := s_is_on) l_is_on c_is_on k_is_on, m_is_on := PySem.W.mg_of X G a_is_on,
    b_is_on := (fun_mk (st := s_is_on) l_is_on c_is_on k_is_on).binds (ps := ["p", "segment"]) fun _ _ _ _ _ _ us hl => match us, hl with | [_, _], _ => rfl,
    a_crosses_east := f_crosses_east, d_crosses_east := _, F_crosses_east := fun_mk (st := s_crosses_east) l_crosses_east c_crosses_east k_crosses_east, m_crosses_east := PySem.W.mg_of X G a_crosses_east,
    b_crosses_east := (fun_mk (st := s_crosses_east) l_crosses_east c_crosses_east k_crosses_east).binds (ps := ["p", "a", "b"]) fun _ _ _ _ _ _ us hl => match us, hl with | [_, _, _], _ => rfl,
    a_are_apart := f_are_apart, d_are_apart := _, F_are_apart := fun_mk (st := s_are_apart) l_are_apart c_are_apart k_are_apart, m_are_apart := PySem.W.mg_of X G a_are_apart,
    b_are_apart := (fun_mk (st := s_are_apart) l_are_apart c_are_apart k_are_apart).binds (ps := ["first", "second"]) fun _ _ _ _ _ _ us hl => match us, hl with | [_, _], _ => rfl,
    a_meeting_on_line := f_meeting_on_line, d_meeting_on_line := _, F_meeting_on_line := fun_mk (st := s_meeting_on_line) l_meeting_on_line c_meeting_on_line k_meeting_on_line, m_meeting_on_line := PySem.W.mg_of X G a_meeting_on_line,
    b_meeting_on_line := (fun_mk (st := s_meeting_on_line) l_meeting_on_line c_meeting_on_line k_meeting_on_line).binds (ps := ["first", "second"]) fun _ _ _ _ _ _ us hl => match us, hl with | [_, _], _ => rfl,
    a_common_end := f_common_end, d_common_end := _, F_common_end := fun_mk (st := s_common_end) l_common_end c_common_end k_common_end, m_common_end := PySem.W.mg_of X G a_common_end,
    b_common_end := (fun_mk (st := s_common_end) l_common_end c_common_end k_common_end).binds (ps := ["first", "second"]) fun _ _ _ _ _ _ us hl => match us, hl with | [_, _], _ => rfl,
    a_cut_point := f_cut_point, d_cut_point := _, F_cut_point := fun_mk (st := s_cut_point) l_cut_point c_cut_point k_cut_point, m_cut_point := PySem.W.mg_of X G a_cut_point,
    b_cut_point := (fun_mk (st := s_cut_point) l_cut_point c_cut_point k_cut_point).binds (ps := ["first", "before", "after"]) fun _ _ _ _ _ _ us hl => match us, hl with | [_, _, _], _ => rfl,
    a_meeting_of := f_meeting_of, d_meeting_of := _, F_meeting_of := fun_mk (st := s_meeting_of) l_meeting_of c_meeting_of k_meeting_of, m_meeting_of := PySem.W.mg_of X G a_meeting_of,
    b_meeting_of := (fun_mk (st := s_meeting_of) l_meeting_of c_meeting_of k_meeting_of).binds (ps := ["first", "second"]) fun _ _ _ _ _ _ us hl => match us, hl with | [_, _], _ => rfl,
    a_meeting := f_meeting, d_meeting := _, F_meeting := fun_mk (st := s_meeting) l_meeting c_meeting k_meeting, m_meeting := PySem.W.mg_of X G a_meeting,
    b_meeting := (fun_mk (st := s_meeting) l_meeting c_meeting k_meeting).binds (ps := ["first", "second"]) fun _ _ _ _ _ _ us hl => match us, hl with | [_, _], _ => rfl,
    a_ways_around := f_ways_around, d_ways_around := _, F_ways_around := fun_mk (st := s_ways_around) l_ways_around c_ways_around k_ways_around, m_ways_around := PySem.W.mg_of X G a_ways_around,
    b_ways_around := (fun_mk (st := s_ways_around) l_ways_around c_ways_around k_ways_around).binds (ps := ["points"]) fun _ _ _ _ _ _ us hl => match us, hl with | [_], _ => rfl,
    a_area_around := f_area_around, d_area_around := _, cc_area_around := cc_area_around, P_area_around := P_area_around, F_area_around := funT_mk (st := s_area_around) l_area_around c_area_around k_area_around e_area_around, m_area_around := PySem.W.mg_of X G a_area_around,
    b_area_around := (fun_mk (st := s_area_around) l_area_around c_area_around k_area_around).binds (ps := ["points"]) fun _ _ _ _ _ _ us hl => match us, hl with | [_], _ => rfl,
    a_do_follow := f_do_follow, d_do_follow := _, F_do_follow := fun_mk (st := s_do_follow) l_do_follow c_do_follow k_do_follow, m_do_follow := PySem.W.mg_of X G a_do_follow,
    b_do_follow := (fun_mk (st := s_do_follow) l_do_follow c_do_follow k_do_follow).binds (ps := ["i", "j", "many"]) fun _ _ _ _ _ _ us hl => match us, hl with | [_, _, _], _ => rfl,
    a_is_simple := f_is_simple, d_is_simple := _, cc_is_simple := cc_is_simple, P_is_simple := P_is_simple, F_is_simple := funT_mk (st := s_is_simple) l_is_simple c_is_simple k_is_simple e_is_simple, m_is_simple := PySem.W.mg_of X G a_is_simple,
    b_is_simple := (fun_mk (st := s_is_simple) l_is_simple c_is_simple k_is_simple).binds (ps := ["points"]) fun _ _ _ _ _ _ us hl => match us, hl with | [_], _ => rfl,
    a_goes_around := f_goes_around, d_goes_around := _, F_goes_around := fun_mk (st := s_goes_around) l_goes_around c_goes_around k_goes_around, m_goes_around := PySem.W.mg_of X G a_goes_around,
    b_goes_around := (fun_mk (st := s_goes_around) l_goes_around c_goes_around k_goes_around).binds (ps := ["value"]) fun _ _ _ _ _ _ us hl => match us, hl with | [_], _ => rfl,
    a_is_ring := f_is_ring, d_is_ring := _, F_is_ring := fun_mk (st := s_is_ring) l_is_ring c_is_ring k_is_ring, m_is_ring := PySem.W.mg_of X G a_is_ring,
    b_is_ring := (fun_mk (st := s_is_ring) l_is_ring c_is_ring k_is_ring).binds (ps := ["value"]) fun _ _ _ _ _ _ us hl => match us, hl with | [_], _ => rfl,
    a_ring_of := f_ring_of, d_ring_of := _, F_ring_of := fun_mk (st := s_ring_of) l_ring_of c_ring_of k_ring_of, m_ring_of := PySem.W.mg_of X G a_ring_of,
    b_ring_of := (fun_mk (st := s_ring_of) l_ring_of c_ring_of k_ring_of).binds (ps := ["points"]) fun _ _ _ _ _ _ us hl => match us, hl with | [_], _ => rfl,
    a_place_in := f_place_in, d_place_in := _, cc_place_in := cc_place_in, P_place_in := P_place_in, F_place_in := funT_mk (st := s_place_in) l_place_in c_place_in k_place_in e_place_in, m_place_in := PySem.W.mg_of X G a_place_in,
    b_place_in := (fun_mk (st := s_place_in) l_place_in c_place_in k_place_in).binds (ps := ["p", "ring"]) fun _ _ _ _ _ _ us hl => match us, hl with | [_, _], _ => rfl,
    a_left_turns := f_left_turns, d_left_turns := _, F_left_turns := fun_mk (st := s_left_turns) l_left_turns c_left_turns k_left_turns, m_left_turns := PySem.W.mg_of X G a_left_turns,
    b_left_turns := (fun_mk (st := s_left_turns) l_left_turns c_left_turns k_left_turns).binds (ps := ["points"]) fun _ _ _ _ _ _ us hl => match us, hl with | [_], _ => rfl,
    a_hull_of := f_hull_of, d_hull_of := _, F_hull_of := fun_mk (st := s_hull_of) l_hull_of c_hull_of k_hull_of, m_hull_of := PySem.W.mg_of X G a_hull_of,
    b_hull_of := (fun_mk (st := s_hull_of) l_hull_of c_hull_of k_hull_of).binds (ps := ["points"]) fun _ _ _ _ _ _ us hl => match us, hl with | [_], _ => rfl,
    a__law_stream := f__law_stream, d__law_stream := _, F__law_stream := fun_mk (st := s__law_stream) l__law_stream c__law_stream k__law_stream, m__law_stream := PySem.W.mg_of X G a__law_stream,
    b__law_stream := (fun_mk (st := s__law_stream) l__law_stream c__law_stream k__law_stream).binds (ps := ["script"]) fun _ _ _ _ _ _ us hl => match us, hl with | [_], _ => rfl,
    a__law_next := f__law_next, d__law_next := _, F__law_next := fun_mk (st := s__law_next) l__law_next c__law_next k__law_next, m__law_next := PySem.W.mg_of X G a__law_next,
    b__law_next := (fun_mk (st := s__law_next) l__law_next c__law_next k__law_next).binds (ps := ["stream", "many"]) fun _ _ _ _ _ _ us hl => match us, hl with | [_, _], _ => rfl,
    a__law_is_integer := f__law_is_integer, d__law_is_integer := _, F__law_is_integer := fun_mk (st := s__law_is_integer) l__law_is_integer c__law_is_integer k__law_is_integer, m__law_is_integer := PySem.W.mg_of X G a__law_is_integer,
    b__law_is_integer := (fun_mk (st := s__law_is_integer) l__law_is_integer c__law_is_integer k__law_is_integer).binds (ps := ["actual"]) fun _ _ _ _ _ _ us hl => match us, hl with | [_], _ => rfl,
    a__law_gcd := f__law_gcd, d__law_gcd := _, F__law_gcd := fun_mk (st := s__law_gcd) l__law_gcd c__law_gcd k__law_gcd, m__law_gcd := PySem.W.mg_of X G a__law_gcd,
    b__law_gcd := (fun_mk (st := s__law_gcd) l__law_gcd c__law_gcd k__law_gcd).binds (ps := ["a", "b"]) fun _ _ _ _ _ _ us hl => match us, hl with | [_, _], _ => rfl,
    a__law_low := f__law_low, d__law_low := _, F__law_low := fun_mk (st := s__law_low) l__law_low c__law_low k__law_low, m__law_low := PySem.W.mg_of X G a__law_low,
    b__law_low := (fun_mk (st := s__law_low) l__law_low c__law_low k__law_low).binds (ps := ["n", "d"]) fun _ _ _ _ _ _ us hl => match us, hl with | [_, _], _ => rfl,
    a__law_plus := f__law_plus, d__law_plus := _, F__law_plus := fun_mk (st := s__law_plus) l__law_plus c__law_plus k__law_plus, m__law_plus := PySem.W.mg_of X G a__law_plus,
    b__law_plus := (fun_mk (st := s__law_plus) l__law_plus c__law_plus k__law_plus).binds (ps := ["a", "b"]) fun _ _ _ _ _ _ us hl => match us, hl with | [_, _], _ => rfl,
    a__law_equal := f__law_equal, d__law_equal := _, F__law_equal := fun_mk (st := s__law_equal) l__law_equal c__law_equal k__law_equal, m__law_equal := PySem.W.mg_of X G a__law_equal,
    b__law_equal := (fun_mk (st := s__law_equal) l__law_equal c__law_equal k__law_equal).binds (ps := ["actual", "due"]) fun _ _ _ _ _ _ us hl => match us, hl with | [_, _], _ => rfl,
    a__law_turn := f__law_turn, d__law_turn := _, F__law_turn := fun_mk (st := s__law_turn) l__law_turn c__law_turn k__law_turn, m__law_turn := PySem.W.mg_of X G a__law_turn,
    b__law_turn := (fun_mk (st := s__law_turn) l__law_turn c__law_turn k__law_turn).binds (ps := ["a", "b", "c"]) fun _ _ _ _ _ _ us hl => match us, hl with | [_, _, _], _ => rfl,
    a__law_sign := f__law_sign, d__law_sign := _, F__law_sign := fun_mk (st := s__law_sign) l__law_sign c__law_sign k__law_sign, m__law_sign := PySem.W.mg_of X G a__law_sign,
    b__law_sign := (fun_mk (st := s__law_sign) l__law_sign c__law_sign k__law_sign).binds (ps := ["n"]) fun _ _ _ _ _ _ us hl => match us, hl with | [_], _ => rfl,
    a__law_between := f__law_between, d__law_between := _, F__law_between := fun_mk (st := s__law_between) l__law_between c__law_between k__law_between, m__law_between := PySem.W.mg_of X G a__law_between,
    b__law_between := (fun_mk (st := s__law_between) l__law_between c__law_between k__law_between).binds (ps := ["p", "a", "b"]) fun _ _ _ _ _ _ us hl => match us, hl with | [_, _, _], _ => rfl,
    a__law_point := f__law_point, d__law_point := _, F__law_point := fun_mk (st := s__law_point) l__law_point c__law_point k__law_point, m__law_point := PySem.W.mg_of X G a__law_point,
    b__law_point := (fun_mk (st := s__law_point) l__law_point c__law_point k__law_point).binds (ps := ["stream", "far"]) fun _ _ _ _ _ _ us hl => match us, hl with | [_, _], _ => rfl,
    a__law_segment := f__law_segment, d__law_segment := _, F__law_segment := fun_mk (st := s__law_segment) l__law_segment c__law_segment k__law_segment, m__law_segment := PySem.W.mg_of X G a__law_segment,
    b__law_segment := (fun_mk (st := s__law_segment) l__law_segment c__law_segment k__law_segment).binds (ps := ["stream", "far"]) fun _ _ _ _ _ _ us hl => match us, hl with | [_, _], _ => rfl,
    a__law_edges := f__law_edges, d__law_edges := _, F__law_edges := fun_mk (st := s__law_edges) l__law_edges c__law_edges k__law_edges, m__law_edges := PySem.W.mg_of X G a__law_edges,
    b__law_edges := (fun_mk (st := s__law_edges) l__law_edges c__law_edges k__law_edges).binds (ps := ["points"]) fun _ _ _ _ _ _ us hl => match us, hl with | [_], _ => rfl,
    a__law_size := f__law_size, d__law_size := _, F__law_size := fun_mk (st := s__law_size) l__law_size c__law_size k__law_size, m__law_size := PySem.W.mg_of X G a__law_size,
    b__law_size := (fun_mk (st := s__law_size) l__law_size c__law_size k__law_size).binds (ps := ["points"]) fun _ _ _ _ _ _ us hl => match us, hl with | [_], _ => rfl,
    a__law_meet := f__law_meet, d__law_meet := _, F__law_meet := fun_mk (st := s__law_meet) l__law_meet c__law_meet k__law_meet, m__law_meet := PySem.W.mg_of X G a__law_meet,
    b__law_meet := (fun_mk (st := s__law_meet) l__law_meet c__law_meet k__law_meet).binds (ps := ["s", "t"]) fun _ _ _ _ _ _ us hl => match us, hl with | [_, _], _ => rfl,
    a__law_is_simple := f__law_is_simple, d__law_is_simple := _, F__law_is_simple := fun_mk (st := s__law_is_simple) l__law_is_simple c__law_is_simple k__law_is_simple, m__law_is_simple := PySem.W.mg_of X G a__law_is_simple,
    b__law_is_simple := (fun_mk (st := s__law_is_simple) l__law_is_simple c__law_is_simple k__law_is_simple).binds (ps := ["points"]) fun _ _ _ _ _ _ us hl => match us, hl with | [_], _ => rfl,
    a__law_made := f__law_made, d__law_made := _, F__law_made := fun_mk (st := s__law_made) l__law_made c__law_made k__law_made, m__law_made := PySem.W.mg_of X G a__law_made,
    b__law_made := (fun_mk (st := s__law_made) l__law_made c__law_made k__law_made).binds (ps := ["points"]) fun _ _ _ _ _ _ us hl => match us, hl with | [_], _ => rfl,
    a__law_grown := f__law_grown, d__law_grown := _, F__law_grown := fun_mk (st := s__law_grown) l__law_grown c__law_grown k__law_grown, m__law_grown := PySem.W.mg_of X G a__law_grown,
    b__law_grown := (fun_mk (st := s__law_grown) l__law_grown c__law_grown k__law_grown).binds (ps := ["stream", "far", "most"]) fun _ _ _ _ _ _ us hl => match us, hl with | [_, _, _], _ => rfl,
    a__law_image := f__law_image, d__law_image := _, F__law_image := fun_mk (st := s__law_image) l__law_image c__law_image k__law_image, m__law_image := PySem.W.mg_of X G a__law_image,
    b__law_image := (fun_mk (st := s__law_image) l__law_image c__law_image k__law_image).binds (ps := ["p", "how"]) fun _ _ _ _ _ _ us hl => match us, hl with | [_, _], _ => rfl,
    a__law_segment_image := f__law_segment_image, d__law_segment_image := _, F__law_segment_image := fun_mk (st := s__law_segment_image) l__law_segment_image c__law_segment_image k__law_segment_image, m__law_segment_image := PySem.W.mg_of X G a__law_segment_image,
    b__law_segment_image := (fun_mk (st := s__law_segment_image) l__law_segment_image c__law_segment_image k__law_segment_image).binds (ps := ["s", "how"]) fun _ _ _ _ _ _ us hl => match us, hl with | [_, _], _ => rfl,
    a__law_exact := f__law_exact, d__law_exact := _, F__law_exact := fun_mk (st := s__law_exact) l__law_exact c__law_exact k__law_exact, m__law_exact := PySem.W.mg_of X G a__law_exact,
    b__law_exact := (fun_mk (st := s__law_exact) l__law_exact c__law_exact k__law_exact).binds (ps := ["x", "y", "how"]) fun _ _ _ _ _ _ us hl => match us, hl with | [_, _, _], _ => rfl,
    a_law := fa, d_law := _, F_law := fun_mk (st := s_law) l_law c_law k_law, m_law := PySem.W.mg_of X G a_law,
    b_law := (fun_mk (st := s_law) l_law c_law k_law).binds (ps := ["script"]) fun _ _ _ _ _ _ us hl => match us, hl with | [_], _ => rfl,
    n_abs := PySem.W.mg_none_of X G z_abs,
    n_all := PySem.W.mg_none_of X G z_all,
    n_any := PySem.W.mg_none_of X G z_any,
    n_bool := PySem.W.mg_none_of X G z_bool,
    n_int := PySem.W.mg_none_of X G z_int,
    n_isinstance := PySem.W.mg_none_of X G z_isinstance,
    n_len := PySem.W.mg_none_of X G z_len,
    n_list := PySem.W.mg_none_of X G z_list,
    n_max := PySem.W.mg_none_of X G z_max,
    n_min := PySem.W.mg_none_of X G z_min,
    n_range := PySem.W.mg_none_of X G z_range,
    n_set := PySem.W.mg_none_of X G z_set,
    n_sorted := PySem.W.mg_none_of X G z_sorted,
    n_str := PySem.W.mg_none_of X G z_str,
    n_sum := PySem.W.mg_none_of X G z_sum,
    n_tuple := PySem.W.mg_none_of X G z_tuple,
    n_zip := PySem.W.mg_none_of X G z_zip,
    c_HIGHEST := ⟨_, PySem.W.mg_of X G v_HIGHEST⟩,
    c_LEAST_OF_RING := ⟨_, PySem.W.mg_of X G v_LEAST_OF_RING⟩,
    c_LOWEST := ⟨_, PySem.W.mg_of X G v_LOWEST⟩,
    c_MOST_OF_HULL := ⟨_, PySem.W.mg_of X G v_MOST_OF_HULL⟩,
    c_MOST_OF_RING := ⟨_, PySem.W.mg_of X G v_MOST_OF_RING⟩,
    n_gcd := PySem.W.mg_of X G z_gcd,
    C_BadValue := bC, i_BadValue := bI,
    bv := { gC := PySem.W.mg_of X G baC, cls := ⟨bnm, bq, bN, bbs, _, bsn, bsub, bab, bcol, bdd, bm0, bm1, bm2, bm3, bm5, bxL, rfl⟩, sa := bsa, ga := bga, gg := bgg, noN := bnb, iC := ba1, tC := bt1, kC := bkC, exC := beC, tyC := btC, hdC := bhC, te := exm_self beC biC btC bsC, fn := ⟨_, _, _, _, _, _, _, _, _, _, _, _, _, _, bl1, bc1⟩ } }
  have tb_are_points := TQ "are_points" cc_are_points P_are_points rc_are_points (tabIn_of a_are_points l_are_points rfl e_are_points o_are_points v_are_points)
  have tb_area_around := TQ "area_around" cc_area_around P_area_around rc_area_around (tabIn_of a_area_around l_area_around rfl e_area_around o_area_around v_area_around)
  have tb_is_simple := TQ "is_simple" cc_is_simple P_is_simple rc_is_simple (tabIn_of a_is_simple l_is_simple rfl e_is_simple o_is_simple v_is_simple)
  have tb_place_in := TQ "place_in" cc_place_in P_place_in rc_place_in (tabIn_of a_place_in l_place_in rfl e_place_in o_place_in v_place_in)
  refine ⟨_, [(cc_are_points, P_are_points), (cc_area_around, P_area_around), (cc_is_simple, P_is_simple), (cc_place_in, P_place_in)], spLawT K T.ts, List.forall_mem_cons.mpr ⟨tb_are_points.2, List.forall_mem_cons.mpr ⟨tb_area_around.2, List.forall_mem_cons.mpr ⟨tb_is_simple.2, List.forall_mem_cons.mpr ⟨tb_place_in.2, fun _ z => nomatch z⟩⟩⟩⟩, List.forall_mem_cons.mpr ⟨nl_are_points, List.forall_mem_cons.mpr ⟨nl_area_around, List.forall_mem_cons.mpr ⟨nl_is_simple, List.forall_mem_cons.mpr ⟨nl_place_in, fun _ z => nomatch z⟩⟩⟩⟩, List.forall_mem_cons.mpr ⟨tb_are_points.1, List.forall_mem_cons.mpr ⟨tb_area_around.1, List.forall_mem_cons.mpr ⟨tb_is_simple.1, List.forall_mem_cons.mpr ⟨tb_place_in.1, fun _ z => nomatch z⟩⟩⟩⟩, fun s v => .of_eq rfl, fun H a ns h1 h2 h3 h4 => ⟨a, ns, rfl, h4, h1, tbs_nil rfl h3, fun _ => rfl⟩, fun base _ _ hb => ok_law T ⟨(let z := hb (cc_are_points, P_are_points) (by simp); ⟨z.code, z.bm, z.gP⟩), (let z := hb (cc_area_around, P_area_around) (by simp); ⟨z.code, z.bm, z.gP⟩), (let z := hb (cc_is_simple, P_is_simple) (by simp); ⟨z.code, z.bm, z.gP⟩), (let z := hb (cc_place_in, P_place_in) (by simp); ⟨z.code, z.bm, z.gP⟩)⟩⟩
end My
open PySem PySem.W PyProof.Rows
set_option maxRecDepth 100000 in
set_option maxHeartbeats 0 in
theorem PySem.Challenge.cw_trueatlas_k13_everything_turned_holds : PySem.Challenge.rw_trueatlas_k13_everything_turned.Holds := by
  w_on; o_law; k_head; (case hw => w_witness2)
  k_fill
  refine My.walkT (l := PySem.Challenge.rw_trueatlas_k13_everything_turned) (k := 15) ⟨rfl, by decide, by decide⟩ rfl rfl (fun w h Y => PySem.W.kIn_of Y) ?F
  case F =>
    intro w mg fa h TQ KX G hmg
    refine' My.all_mk (w := w) KX G hmg TQ ?a_is_whole ?l_is_whole ?c_is_whole ?k_is_whole ?a_is_pair ?l_is_pair ?c_is_pair ?k_is_pair ?a_need ?l_need ?c_need ?k_need ?a_lowest ?l_lowest ?c_lowest ?k_lowest ?a_is_coordinate ?l_is_coordinate ?c_is_coordinate ?k_is_coordinate ?a_is_point ?l_is_point ?c_is_point ?k_is_point ?a_is_segment ?l_is_segment ?c_is_segment ?k_is_segment ?a_are_points ?l_are_points ?c_are_points ?k_are_points ?a_joining ?l_joining ?c_joining ?k_joining ?a_edges_along ?l_edges_along ?c_edges_along ?k_edges_along ?a_turn_of ?l_turn_of ?c_turn_of ?k_turn_of ?a_is_on ?l_is_on ?c_is_on ?k_is_on ?a_crosses_east ?l_crosses_east ?c_crosses_east ?k_crosses_east ?a_are_apart ?l_are_apart ?c_are_apart ?k_are_apart ?a_meeting_on_line ?l_meeting_on_line ?c_meeting_on_line ?k_meeting_on_line ?a_common_end ?l_common_end ?c_common_end ?k_common_end ?a_cut_point ?l_cut_point ?c_cut_point ?k_cut_point ?a_meeting_of ?l_meeting_of ?c_meeting_of ?k_meeting_of ?a_meeting ?l_meeting ?c_meeting ?k_meeting ?a_ways_around ?l_ways_around ?c_ways_around ?k_ways_around ?a_area_around ?l_area_around ?c_area_around ?k_area_around ?a_do_follow ?l_do_follow ?c_do_follow ?k_do_follow ?a_is_simple ?l_is_simple ?c_is_simple ?k_is_simple ?a_goes_around ?l_goes_around ?c_goes_around ?k_goes_around ?a_is_ring ?l_is_ring ?c_is_ring ?k_is_ring ?a_ring_of ?l_ring_of ?c_ring_of ?k_ring_of ?a_place_in ?l_place_in ?c_place_in ?k_place_in ?a_left_turns ?l_left_turns ?c_left_turns ?k_left_turns ?a_hull_of ?l_hull_of ?c_hull_of ?k_hull_of ?a__law_stream ?l__law_stream ?c__law_stream ?k__law_stream ?a__law_next ?l__law_next ?c__law_next ?k__law_next ?a__law_is_integer ?l__law_is_integer ?c__law_is_integer ?k__law_is_integer ?a__law_gcd ?l__law_gcd ?c__law_gcd ?k__law_gcd ?a__law_low ?l__law_low ?c__law_low ?k__law_low ?a__law_plus ?l__law_plus ?c__law_plus ?k__law_plus ?a__law_equal ?l__law_equal ?c__law_equal ?k__law_equal ?a__law_turn ?l__law_turn ?c__law_turn ?k__law_turn ?a__law_sign ?l__law_sign ?c__law_sign ?k__law_sign ?a__law_between ?l__law_between ?c__law_between ?k__law_between ?a__law_point ?l__law_point ?c__law_point ?k__law_point ?a__law_segment ?l__law_segment ?c__law_segment ?k__law_segment ?a__law_edges ?l__law_edges ?c__law_edges ?k__law_edges ?a__law_size ?l__law_size ?c__law_size ?k__law_size ?a__law_meet ?l__law_meet ?c__law_meet ?k__law_meet ?a__law_is_simple ?l__law_is_simple ?c__law_is_simple ?k__law_is_simple ?a__law_made ?l__law_made ?c__law_made ?k__law_made ?a__law_grown ?l__law_grown ?c__law_grown ?k__law_grown ?a__law_image ?l__law_image ?c__law_image ?k__law_image ?a__law_segment_image ?l__law_segment_image ?c__law_segment_image ?k__law_segment_image ?a__law_exact ?l__law_exact ?c__law_exact ?k__law_exact ?a_law ?l_law ?c_law ?k_law ?z_abs ?z_all ?z_any ?z_bool ?z_int ?z_isinstance ?z_len ?z_list ?z_max ?z_min ?z_range ?z_set ?z_sorted ?z_str ?z_sum ?z_tuple ?z_zip ?v_HIGHEST ?v_LEAST_OF_RING ?v_LOWEST ?v_MOST_OF_HULL ?v_MOST_OF_RING ?z_gcd ?baC ?bxL ?bsa ?bga ?bgg ?bnb ?ba1 ?bt1 ?bl1 ?bc1 ?bkC ?beC ?btC ?bhC ?biC ?bsC ?e_are_points ?o_are_points ?v_are_points ?nl_are_points ?rc_are_points ?e_area_around ?o_area_around ?v_area_around ?nl_area_around ?rc_area_around ?e_is_simple ?o_is_simple ?v_is_simple ?nl_is_simple ?rc_is_simple ?e_place_in ?o_place_in ?v_place_in ?nl_place_in ?rc_place_in
    (case a_is_whole => k_is)
    (case l_is_whole => k_is)
    (case c_is_whole => k_is)
    (case k_is_whole => k_is)
    (case a_is_pair => k_is)
    (case l_is_pair => k_is)
    (case c_is_pair => k_is)
    (case k_is_pair => k_is)
    (case a_need => k_is)
    (case l_need => k_is)
    (case c_need => k_is)
    (case k_need => k_is)
    (case a_lowest => k_is)
    (case l_lowest => k_is)
    (case c_lowest => k_is)
    (case k_lowest => k_is)
    (case a_is_coordinate => k_is)
    (case l_is_coordinate => k_is)
    (case c_is_coordinate => k_is)
    (case k_is_coordinate => k_is)
    (case a_is_point => k_is)
    (case l_is_point => k_is)
    (case c_is_point => k_is)
    (case k_is_point => k_is)
    (case a_is_segment => k_is)
    (case l_is_segment => k_is)
    (case c_is_segment => k_is)
    (case k_is_segment => k_is)
    (case a_are_points => k_is)
    (case l_are_points => k_is)
    (case c_are_points => k_is)
    (case k_are_points => k_is)
    (case a_joining => k_is)
    (case l_joining => k_is)
    (case c_joining => k_is)
    (case k_joining => k_is)
    (case a_edges_along => k_is)
    (case l_edges_along => k_is)
    (case c_edges_along => k_is)
    (case k_edges_along => k_is)
    (case a_turn_of => k_is)
    (case l_turn_of => k_is)
    (case c_turn_of => k_is)
    (case k_turn_of => k_is)
    (case a_is_on => k_is)
    (case l_is_on => k_is)
    (case c_is_on => k_is)
    (case k_is_on => k_is)
    (case a_crosses_east => k_is)
    (case l_crosses_east => k_is)
    (case c_crosses_east => k_is)
    (case k_crosses_east => k_is)
    (case a_are_apart => k_is)
    (case l_are_apart => k_is)
    (case c_are_apart => k_is)
    (case k_are_apart => k_is)
    (case a_meeting_on_line => k_is)
    (case l_meeting_on_line => k_is)
    (case c_meeting_on_line => k_is)
    (case k_meeting_on_line => k_is)
    (case a_common_end => k_is)
    (case l_common_end => k_is)
    (case c_common_end => k_is)
    (case k_common_end => k_is)
    (case a_cut_point => k_is)
    (case l_cut_point => k_is)
    (case c_cut_point => k_is)
    (case k_cut_point => k_is)
    (case a_meeting_of => k_is)
    (case l_meeting_of => k_is)
    (case c_meeting_of => k_is)
    (case k_meeting_of => k_is)
    (case a_meeting => k_is)
    (case l_meeting => k_is)
    (case c_meeting => k_is)
    (case k_meeting => k_is)
    (case a_ways_around => k_is)
    (case l_ways_around => k_is)
    (case c_ways_around => k_is)
    (case k_ways_around => k_is)
    (case a_area_around => k_is)
    (case l_area_around => k_is)
    (case c_area_around => k_is)
    (case k_area_around => k_is)
    (case a_do_follow => k_is)
    (case l_do_follow => k_is)
    (case c_do_follow => k_is)
    (case k_do_follow => k_is)
    (case a_is_simple => k_is)
    (case l_is_simple => k_is)
    (case c_is_simple => k_is)
    (case k_is_simple => k_is)
    (case a_goes_around => k_is)
    (case l_goes_around => k_is)
    (case c_goes_around => k_is)
    (case k_goes_around => k_is)
    (case a_is_ring => k_is)
    (case l_is_ring => k_is)
    (case c_is_ring => k_is)
    (case k_is_ring => k_is)
    (case a_ring_of => k_is)
    (case l_ring_of => k_is)
    (case c_ring_of => k_is)
    (case k_ring_of => k_is)
    (case a_place_in => k_is)
    (case l_place_in => k_is)
    (case c_place_in => k_is)
    (case k_place_in => k_is)
    (case a_left_turns => k_is)
    (case l_left_turns => k_is)
    (case c_left_turns => k_is)
    (case k_left_turns => k_is)
    (case a_hull_of => k_is)
    (case l_hull_of => k_is)
    (case c_hull_of => k_is)
    (case k_hull_of => k_is)
    (case a__law_stream => k_is)
    (case l__law_stream => k_is)
    (case c__law_stream => k_is)
    (case k__law_stream => k_is)
    (case a__law_next => k_is)
    (case l__law_next => k_is)
    (case c__law_next => k_is)
    (case k__law_next => k_is)
    (case a__law_is_integer => k_is)
    (case l__law_is_integer => k_is)
    (case c__law_is_integer => k_is)
    (case k__law_is_integer => k_is)
    (case a__law_gcd => k_is)
    (case l__law_gcd => k_is)
    (case c__law_gcd => k_is)
    (case k__law_gcd => k_is)
    (case a__law_low => k_is)
    (case l__law_low => k_is)
    (case c__law_low => k_is)
    (case k__law_low => k_is)
    (case a__law_plus => k_is)
    (case l__law_plus => k_is)
    (case c__law_plus => k_is)
    (case k__law_plus => k_is)
    (case a__law_equal => k_is)
    (case l__law_equal => k_is)
    (case c__law_equal => k_is)
    (case k__law_equal => k_is)
    (case a__law_turn => k_is)
    (case l__law_turn => k_is)
    (case c__law_turn => k_is)
    (case k__law_turn => k_is)
    (case a__law_sign => k_is)
    (case l__law_sign => k_is)
    (case c__law_sign => k_is)
    (case k__law_sign => k_is)
    (case a__law_between => k_is)
    (case l__law_between => k_is)
    (case c__law_between => k_is)
    (case k__law_between => k_is)
    (case a__law_point => k_is)
    (case l__law_point => k_is)
    (case c__law_point => k_is)
    (case k__law_point => k_is)
    (case a__law_segment => k_is)
    (case l__law_segment => k_is)
    (case c__law_segment => k_is)
    (case k__law_segment => k_is)
    (case a__law_edges => k_is)
    (case l__law_edges => k_is)
    (case c__law_edges => k_is)
    (case k__law_edges => k_is)
    (case a__law_size => k_is)
    (case l__law_size => k_is)
    (case c__law_size => k_is)
    (case k__law_size => k_is)
    (case a__law_meet => k_is)
    (case l__law_meet => k_is)
    (case c__law_meet => k_is)
    (case k__law_meet => k_is)
    (case a__law_is_simple => k_is)
    (case l__law_is_simple => k_is)
    (case c__law_is_simple => k_is)
    (case k__law_is_simple => k_is)
    (case a__law_made => k_is)
    (case l__law_made => k_is)
    (case c__law_made => k_is)
    (case k__law_made => k_is)
    (case a__law_grown => k_is)
    (case l__law_grown => k_is)
    (case c__law_grown => k_is)
    (case k__law_grown => k_is)
    (case a__law_image => k_is)
    (case l__law_image => k_is)
    (case c__law_image => k_is)
    (case k__law_image => k_is)
    (case a__law_segment_image => k_is)
    (case l__law_segment_image => k_is)
    (case c__law_segment_image => k_is)
    (case k__law_segment_image => k_is)
    (case a__law_exact => k_is)
    (case l__law_exact => k_is)
    (case c__law_exact => k_is)
    (case k__law_exact => k_is)
    (case a_law => k_is)
    (case l_law => k_is)
    (case c_law => k_is)
    (case k_law => k_is)
    (case z_abs => k_is)
    (case z_all => k_is)
    (case z_any => k_is)
    (case z_bool => k_is)
    (case z_int => k_is)
    (case z_isinstance => k_is)
    (case z_len => k_is)
    (case z_list => k_is)
    (case z_max => k_is)
    (case z_min => k_is)
    (case z_range => k_is)
    (case z_set => k_is)
    (case z_sorted => k_is)
    (case z_str => k_is)
    (case z_sum => k_is)
    (case z_tuple => k_is)
    (case z_zip => k_is)
    (case v_HIGHEST => k_is)
    (case v_LEAST_OF_RING => k_is)
    (case v_LOWEST => k_is)
    (case v_MOST_OF_HULL => k_is)
    (case v_MOST_OF_RING => k_is)
    (case z_gcd => k_is)
    (case baC => k_is)
    (case bxL => k_is)
    (case bsa => k_is)
    (case bga => k_is)
    (case bgg => k_is)
    (case bnb => k_is)
    (case ba1 => k_is)
    (case bt1 => k_is)
    (case bl1 => k_is)
    (case bc1 => k_is)
    (case bkC => k_is)
    (case beC => k_is)
    (case btC => k_is)
    (case bhC => k_is)
    (case biC => k_is)
    (case bsC => first | rfl | k_is)
    (case e_are_points => rfl)
    (case o_are_points => k_is)
    (case v_are_points => rfl)
    (case nl_are_points => first | rfl | kernel_rfl)
    (case rc_are_points => first | rfl | decide +kernel)
    (case e_area_around => rfl)
    (case o_area_around => k_is)
    (case v_area_around => rfl)
    (case nl_area_around => first | rfl | kernel_rfl)
    (case rc_area_around => first | rfl | decide +kernel)
    (case e_is_simple => rfl)
    (case o_is_simple => k_is)
    (case v_is_simple => rfl)
    (case nl_is_simple => first | rfl | kernel_rfl)
    (case rc_is_simple => first | rfl | decide +kernel)
    (case e_place_in => rfl)
    (case o_place_in => k_is)
    (case v_place_in => rfl)
    (case nl_place_in => first | rfl | kernel_rfl)
    (case rc_place_in => first | rfl | decide +kernel)
